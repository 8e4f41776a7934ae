import PyProof.Rows.All
import Wide.All
import OpenK.AllK
import Wide.FinOn
import Lean
import PyProof.EqAt
import PyProof.EqKinds
import PyProof.TupleCall
import KE.KSortTup
import PyProof.NeKinds
import PyProof.SetKind
import PyProof.SetRoads
import PyProof.SetNew
import PyProof.WalksS
import PyProof.CollectWalk
import PyProof.TupleKey
import PyProof.IsRules
import PyProof.InstEq
import KE.KRevIter
import PyProof.FitsBits
import PyProof.P3Eq
import PyProof.ListRange
import PyProof.MeetsSeq
import PyProof.DictRoadsH
import PySem.Challenge.RW_mapdye_k52_whole_exchanged_chains
set_option Elab.async false
set_option linter.all false
set_option maxRecDepth 100000
abbrev aW:= @List.length_map
abbrev cP:= @List.getD_eq_getElem?_getD
abbrev eo:= @List.getElem?_eq_some_iff
abbrev eN:= @List.getElem?_eq_getElem
abbrev cK:= @List.length_append
abbrev bC:= @Nat.le_refl
abbrev dP:= @Bool.false_ne_true
abbrev dQ:= @List.size_toArray
abbrev fJ:= @List.mem_cons_of_mem
abbrev fQ:= @List.mem_cons_self
abbrev cE:= @List.mem_singleton
abbrev dX:= @List.mem_append_right
abbrev cU:= @List.getElem?_map
abbrev cu:= @List.mem_append
abbrev eJ:= @List.mem_of_getElem?
abbrev cM:= @List.map_append
abbrev cN:= @List.mem_range
abbrev gO:= @List.getElem?_set_self
abbrev iQ:= @List.getElem?_append_left
abbrev cn:= @Nat.ne_of_lt
abbrev eS:= @Nat.lt_of_lt_of_le
abbrev fH:= @Array.length_toList
abbrev dY:= @List.length_cons
abbrev fV:= @List.mem_append_left
abbrev jh:= @List.getElem?_append_right
abbrev gP:= @List.getElem?_set_ne
abbrev cV:= @List.mem_cons
abbrev h8:= @List.getElem?_eq_none
abbrev eM:= @List.length_set
abbrev gQ:= @Nat.le_of_not_lt
abbrev eO:= @List.mem_map
abbrev fW:= @List.nodup_nil
abbrev nZ:= @Array.getElem?_eq_getElem
abbrev ji:= @List.length_take
abbrev mv:= @List.length_singleton
abbrev fI:= @Nat.zero_le
abbrev jS:= @List.nodup_append
abbrev jj:= @List.nodup_cons
abbrev kA:= @List.length_range
abbrev n4:= @Array.getElem?_toList
abbrev qx:= @List.getElem?_cons_succ
abbrev jk:= @Nat.lt_irrefl
abbrev mw:= @List.append_assoc
abbrev mx:= @Bool.eq_false_iff
abbrev n5:= @List.replicate_succ
abbrev qy:= @List.length_replicate
abbrev my:= @List.lookup_cons
abbrev rS:= @List.idxOf_lt_length_iff
abbrev jT:= @List.map_cons
abbrev rT:= @List.getElem?_replicate
abbrev n6:= @List.getElem?_set
abbrev n9:= @List.pairwise_map
abbrev mz:= @List.append_nil
abbrev uX:= @Array.getD_eq_getD_getElem?
abbrev jU:= @Nat.le_trans
abbrev rU:= @List.length_pos_of_mem
abbrev uY:= @Array.getElem?_eq_some_iff
abbrev oe:= @Nat.mod_eq_of_lt
abbrev og:= @List.getElem_mem
abbrev uZ:= @List.set_eq_of_length_le
abbrev qz:= @List.flatten_cons
abbrev qA:= @Int.toNat_natCast
abbrev rV:= @List.getElem?_range
abbrev qB:= @Bool.and_eq_true
abbrev mB:= @Nat.zero_add
abbrev qC:= @List.nil_append
abbrev qD:= @List.length_nil
abbrev xF:= @List.nodup_iff_pairwise_ne
abbrev u0:= @List.getElem?_of_mem
abbrev oh:= @Nat.sub_self
abbrev oj:= @List.map_map
abbrev rW:= @List.mem_reverse
abbrev xG:= @List.getElem?_take_of_lt
abbrev u3:= @Bool.false_eq_true
abbrev u4:= @List.getElem_idxOf
abbrev xH:= @Array.getElem?_eq_none
abbrev xI:= @List.drop_eq_nil_of_le
abbrev qE:= @List.map_set
abbrev xJ:= @List.take_append_drop
abbrev om:= @Nat.mod_lt
abbrev rX:= @List.map_take
abbrev xK:= @List.length_reverse
abbrev u5:= @List.mem_filter
abbrev Bu:= @List.drop_eq_getElem_cons
abbrev rY:= @Nat.le_of_lt
namespace L2
open PySem PySem.Spec PyProof.Rows
abbrev Key:=Sum Int Str
def Ag:Key→Value→Bool
 | .inl k,v=>Value.isInt k v
 | .inr x,v=>Value.isStrOf x v
def Kh(w:World):Key→Int
 | .inl k=>hashInt k
 | .inr x=>hashStr w x
theorem bH:∀{k:Key}{v:Value},Ag k v=true→(∃i t,k=Sum.inl i∧v=Value.int i t)∨(∃x t,k=Sum.inr x∧v=Value.str x t)
 | .inl i,v,h=>by
  obtain ⟨t,e⟩:=Value.isInt_shape (k:=i) (v:=v) h;exact .inl ⟨i,t,rfl,e⟩
 | .inr x,v,h=>by
  obtain ⟨t,e⟩:=Value.isStrOf_shape (x:=x) (v:=v) h;exact .inr ⟨x,t,rfl,e⟩
theorem Cb(a b:Int):decide ((Sum.inl a:Key)=Sum.inl b)=(a==b):=by
 by_cases e:a=b
 ·subst e;simp
 ·have h:¬(Sum.inl a:Key)=Sum.inl b:=λq=>e (Sum.inl.inj q)
  rw [decide_eq_false h];exact (beq_eq_false_iff_ne.mpr e).symm
theorem Ce(a b:Str):decide ((Sum.inr a:Key)=Sum.inr b)=decide (a=b):=by
 by_cases e:a=b
 ·subst e;simp
 ·have h:¬(Sum.inr a:Key)=Sum.inr b:=λq=>e (Sum.inr.inj q)
  rw [decide_eq_false h,decide_eq_false e]
theorem Cc(a:Int)(b:Str):decide ((Sum.inl a:Key)=Sum.inr b)=false:=decide_eq_false (λq=>nomatch q)
theorem Cd(a:Str)(b:Int):decide ((Sum.inr a:Key)=Sum.inl b)=false:=decide_eq_false (λq=>nomatch q)
def p7(prog:Program)(w:World):PySem.KeyKind prog w Key where
 is:=Ag
 hash:=Kh w
 inj:=λv a b ha hb=>by
  rcases bH ha with ⟨i,t,rfl,rfl⟩ | ⟨x,t,rfl,rfl⟩
  ·rcases bH hb with ⟨j,u,rfl,e⟩ | ⟨y,u,rfl,e⟩
   ·injection e with e1 _;rw [e1]
   ·exact nomatch e
  ·rcases bH hb with ⟨j,u,rfl,e⟩ | ⟨y,u,rfl,e⟩
   ·exact nomatch e
   ·injection e with e1 _;rw [e1]
 byValue:=λk v h=>by
  rcases bH h with ⟨i,t,rfl,rfl⟩ | ⟨x,t,rfl,rfl⟩<;>rfl
 pyHash:=λhv h=>by
  rcases bH hv with ⟨i,t,rfl,rfl⟩ | ⟨x,t,rfl,rfl⟩
  ·exact wpAny_pyHash_int h
  ·exact wpAny_pyHash_str h
 eqBool:=λhu hv h=>by
  rcases bH hu with ⟨i,t,rfl,rfl⟩ | ⟨x,t,rfl,rfl⟩
  ·rcases bH hv with ⟨j,u,rfl,rfl⟩ | ⟨y,u,rfl,rfl⟩
   ·rw [Cb] at h;exact wpAny_eqBool_int h
   ·rw [Cc] at h;exact SeqAt.EqAt.int_str i t y u _ _ _ _ h
  ·rcases bH hv with ⟨j,u,rfl,rfl⟩ | ⟨y,u,rfl,rfl⟩
   ·rw [Cd] at h;exact SeqAt.EqAt.str_int x t j u _ _ _ _ h
   ·rw [Ce] at h;exact wpAny_eqBool_str h
 «strs»:=λk x t v h=>by
  rcases bH h with ⟨i,u,rfl,e⟩ | ⟨y,u,rfl,e⟩
  ·exact nomatch e
  ·injection e with e1 _
   subst e1;cases v<;>rfl
inductive V where
 |aT|bl (b:Bool) |int (i:Int) |str (x:Str) |xP (b:Array UInt8) |vy (b:UInt64) |ref (a:Addr) |ty (n:String)
 deriving DecidableEq
def RelV:V→Value→Prop
 | .aT,u=>u=Value.none
 | .bl b,u=>u=Value.bool b
 | .int i,u=>∃t,u=Value.int i t
 | .str x,u=>∃t,u=Value.str x t
 | .xP b,u=>∃t,u=Value.bytes b t
 | .vy b,u=>∃t,u=Value.float b t
 | .ref a,u=>u=Value.ref a
 | .ty n,u=>u=Value.type n
abbrev Vals:List V→List Value→Prop:=Paired RelV
theorem Vals.length{xs:List V}{us:List Value}(r:Vals xs us):xs.length=us.length:=Paired.length r
theorem Vals.get:∀{xs:List V}{us:List Value}{i:Nat}{x:V},Vals xs us→xs[i]? =some x→∃u,us[i]? =some u∧RelV x u
 |_,_,_,_, .nil,e=>by simp at e
 |_,_,0,_, .cons r _,e=>by simp at e;subst e;exact ⟨_,rfl,r⟩
 |_,_,i+1,x, .cons _ t,e=>by
  obtain ⟨u,h1,h2⟩:=Vals.get (i:=i) (x:=x) t (by simpa using e)
  exact ⟨u,by simpa using h1,h2⟩
theorem Vals.set{x:V}{u:Value}(r:RelV x u):∀{xs:List V}{us:List Value}(i:Nat),Vals xs us→Vals (xs.set i x) (us.set i u)
 |_,_,_, .nil=> .nil
 |_,_,0, .cons _ t=> .cons r t
 |_,_,i+1, .cons q t=> .cons q (Vals.set r i t)
theorem Vals.append:∀{xs ys:List V}{us ws:List Value},Vals xs us→Vals ys ws→Vals (xs++ys) (us++ws)
 |_,_,_,_, .nil,s=>s
 |_,_,_,_, .cons r t,s=> .cons r (Vals.append t s)
theorem Vals.take:∀{xs:List V}{us:List Value}(n:Nat),Vals xs us→Vals (xs.take n) (us.take n)
 |_,_,0,_=> .nil
 |_,_,_+1, .nil=> .nil
 |_,_,n+1, .cons r t=> .cons r (Vals.take n t)
theorem Vals.drop:∀{xs:List V}{us:List Value}(n:Nat),Vals xs us→Vals (xs.drop n) (us.drop n)
 |_,_,0,r=>r
 |_,_,_+1, .nil=> .nil
 |_,_,n+1, .cons _ t=>Vals.drop n t
def kh:Option V→Option Value→Prop
 |some v,some u=>RelV v u
 |none,none=>True
 |_,_=>False
def KV{κ:Type}:List (κ×V)→List (κ×Value)→Prop:=Paired λ(p:κ×V)(q:κ×Value)=>p.1=q.1∧RelV p.2 q.2
def kV:Key→V
 | .inl i=> .int i
 | .inr x=> .str x
inductive HO where
 |lst (xs:List V)
 |tup (xs:List V)
 |dK (cB:List (Key×V)) |dT (cB:List (List Key×V))
 |set (S:Int→Bool) (n:Nat)
 |ins (C dx:Addr) (fs:List (Str×V))
 |own (x:Addr)
 |xd (fs:List (Str×V))
 |met (f x:Addr)
 |rng (lo hi:Int)
 |lH (o:Obj) (u:HO)
 |wL (ps:Array Value)
 |ext (φ:Heap→Prop)
abbrev Hp:=Addr→Option HO
def upd(H:Hp)(a:Addr)(o:HO):Hp:=λb=>if b=a then some o else H b
theorem av{H:Hp}{a:Addr}{o:HO}:upd H a o a=some o:=by unfold upd;rw [if_pos rfl]
theorem ax{H:Hp}{a b:Addr}{o:HO}(h:b≠a):upd H a o b=H b:=by unfold upd;rw [if_neg h]
theorem aS{H:Hp}{a b:Addr}{o:HO}(h:H a=some o)(h':H b=none):a≠b:=by
 intro e;subst e;rw [h] at h';cases h'
section
variable (P:Program) (w:World)
def bR(H:Hp)(h:Heap)(a:Addr):HO→Prop
 | .lst xs=>xs.length≤sizeLine∧∃(its:List Value)(n:Nat),Vals xs its∧h.get? a=some {cls:= .type "list",data:= .seq its.toArray n}
 | .tup xs=>xs.length≤sizeLine∧∃its:List Value,Vals xs its∧IsTup h a its.toArray
 | .dK cB=>cB.length≤sizeLine∧(a==sysModules)=false∧∃vs,KV cB vs∧h.DictOf (p7 P w) a vs
 | .dT cB=>cB.length≤sizeLine∧(a==sysModules)=false∧∃xs:List (List Key×Addr×Value),
   Paired (λ(p:List Key×V)(q:List Key×Addr×Value)=>p.1=q.1∧H q.2.1=some (.tup (p.1.map kV))∧RelV p.2 q.2.2) cB xs∧
   ∃o es ep,h.get? a=some o∧o.ExactDict∧o.data= .dict es ep∧es.toList=xs.map (entryOfKey (tupleKind (p7 P w)))∧(xs.map (·.1)).Nodup
 | .set S n=>h.SetOf (intKind P w) a S n
 | .ins C dx fs=>H dx=some (.own a)∧fs.length≤1000∧dx≠a∧h.get? a=some (PySem.W.instObj C dx)∧
   ∃mA,h.Ns1 dx mA∧(∀f,kh (fs.lookup f) (mA f))∧PySem.Within mA (fs.map (·.1))
 | .own _=>∃o,h.get? a=some o
 | .xd fs=>∃mA,h.Ns1 a mA∧∀f,kh (fs.lookup f) (mA f)
 | .rng lo hi=>∃t u v,h.get? a=some {cls:= .type "range",data:= .fields #[.int lo t, .int hi u, .int 1 v]}
 | .lH o u=>h.get? a=some o∧bR H h a u
 | .wL ps=>h.get? a=some {cls:= .none,data:= .fields ps}
 | .met f x=>h.get? a=some (PySem.W.methodObj (.ref f) (.ref x))
 | .ext φ=>φ h∧(∃o,h.get? a=some o)∧∀h1 h2:Heap,φ h1→(∀o,h1.get? a=some o→h2.get? a=some o)→φ h2
def fX(H:Hp)(h:Heap):Prop:=∀a o,H a=some o→bR P w H h a o
end
section
variable {P:Program} {w:World} {H H':Hp} {h h':Heap} {a:Addr} {o:HO}
theorem bR.lt(x:bR P w H h a o):a<h.objs.size:=by
 cases o with
 |lst xs=>obtain ⟨_,_,_,_,e⟩:=x;exact Heap.lt_size e
 |tup xs=>obtain ⟨_,_,_,p⟩:=x;exact p.lt
 |dK cB=>obtain ⟨_,_,_,_,o,_,_,e,_⟩:=x;exact Heap.lt_size e
 |dT cB=>obtain ⟨_,_,_,_,o,_,_,e,_⟩:=x;exact Heap.lt_size e
 |set S n=>obtain ⟨o,_,_,_,e,_⟩:=x;exact Heap.lt_size e
 |ins C dx fs=>obtain ⟨_,_,_,e,_⟩:=x;exact Heap.lt_size e
 |own y=>obtain ⟨_,e⟩:=x;exact Heap.lt_size e
 |xd fs=>obtain ⟨_,⟨_,_,_,e,_⟩,_⟩:=x;exact Heap.lt_size e
 |rng lo hi=>obtain ⟨_,_,_,e⟩:=x;exact Heap.lt_size e
 |lH ob u=>obtain ⟨e,_⟩:=x;exact Heap.lt_size e
 |wL ps=>exact Heap.lt_size (show h.get? a=some _ from x)
 |met f y=>exact Heap.lt_size (show h.get? a=some _ from x)
 |ext φ=>obtain ⟨_,⟨_,e⟩,_⟩:=x;exact Heap.lt_size e
theorem Paired.Ec{α β:Type}{F G:α→β→Prop}:∀{l₁:List α}{l₂:List β},Paired F l₁ l₂→(∀a b,F a b→G a b)→Paired G l₁ l₂
 |_,_, .nil,_=> .nil
 |_,_, .cons r t,f=> .cons (f _ _ r) (Paired.Ec t f)
theorem bR.nX(x:bR P w H h a o)(k:∀b u,(b=a∨H b=some (.own a))→h.get? b=some u→h'.get? b=some u)
  (ho:∀b,H b=some (.own a)→H' b=some (.own a)) (ht:∀b xs,H b=some (.tup xs)→H' b=some (.tup xs)):bR P w H' h' a o:=by
 induction o with
 |lst xs=>obtain ⟨z,its,n,r,e⟩:=x;exact ⟨z,its,n,r,k _ _ (.inl rfl) e⟩
 |tup xs=>obtain ⟨z,its,r,ob,e,c⟩:=x;exact ⟨z,its,r,ob,k _ _ (.inl rfl) e,c⟩
 |dK cB=>obtain ⟨z,y,vs,r,ob,es,ep,e,c⟩:=x;exact ⟨z,y,vs,r,ob,es,ep,k _ _ (.inl rfl) e,c⟩
 |dT cB=>
  obtain ⟨z,y,xs,r,ob,es,ep,e,c⟩:=x;exact ⟨z,y,xs,Paired.Ec r λp q z=>⟨z.1,ht _ _ z.2.1,z.2.2⟩,ob,es,ep,k _ _ (.inl rfl) e,c⟩
 |set S n=>obtain ⟨ob,es,ep,t,e,c⟩:=x;exact ⟨ob,es,ep,t,k _ _ (.inl rfl) e,c⟩
 |ins C dx fs=>
  obtain ⟨d,z,ne,e,mA,⟨od,es,ep,e2,c⟩,r⟩:=x;exact ⟨ho _ d,z,ne,k _ _ (.inl rfl) e,mA,⟨od,es,ep,k _ _ (.inr d) e2,c⟩,r⟩
 |own y=>obtain ⟨ob,e⟩:=x;exact ⟨ob,k _ _ (.inl rfl) e⟩
 |xd fs=>obtain ⟨mA,⟨od,es,ep,e,c⟩,r⟩:=x;exact ⟨mA,⟨od,es,ep,k _ _ (.inl rfl) e,c⟩,r⟩
 |rng lo hi=>obtain ⟨t,u,v,e⟩:=x;exact ⟨t,u,v,k _ _ (.inl rfl) e⟩
 |lH ob u ih=>obtain ⟨e,q⟩:=x;exact ⟨k _ _ (.inl rfl) e,ih q⟩
 |wL ps=>
  have e:h.get? a=some {cls:= .none,data:= .fields ps}:=x;show h'.get? a=some {cls:= .none,data:= .fields ps};exact k a _ (.inl rfl) e
 |met f y=>
  have e:h.get? a=some (PySem.W.methodObj (.ref f) (.ref y)):=x;show h'.get? a=some (PySem.W.methodObj (.ref f) (.ref y));exact k a _ (.inl rfl) e
 |ext φ=>obtain ⟨p,⟨o,e⟩,st⟩:=x;exact ⟨st _ _ p λo q=>k _ _ (.inl rfl) q,⟨o,k _ _ (.inl rfl) e⟩,st⟩
theorem fX.lt(x:fX P w H h)(e:H a=some o):a<h.objs.size:=(x a o e).lt
theorem fX.fresh(x:fX P w H h)(e:h.objs.size≤a):H a=none:=by
 cases q:H a with
 |none=>rfl
 |some u=>exact absurd (eS (x.lt q) e) (jk _)
theorem fX.kept(x:fX P w H h)(k:∀b u,h.get? b=some u→h'.get? b=some u):fX P w H h':=λa o e=>
 (x a o e).nX (λb u _ q=>k b u q) (λ_ q=>q) λ_ _ q=>q
theorem fX.laid(x:fX P w H h)(k:∀b u,h.get? b=some u→h'.get? b=some u)(hp:h.objs.size≤a)(new:bR P w (upd H a o) h' a o):fX P w (upd H a o) h':=λb u e=>by
 have hn:=x.fresh hp
 by_cases hb:b=a
 ·subst hb;rw [av] at e;cases e;exact new
 ·rw [ax hb] at e
  exact (x b u e).nX (λc v _ q=>k c v q) (λc q=>by rw [ax (aS q hn)];exact q) λc xs q=>by rw [ax (aS q hn)];exact q
end
def Rd(H:Hp)(a:Addr)(u:HO):Prop:=H a=some u∨∃o,H a=some (.lH o u)
theorem Rd.ok{P:Program}{w:World}{H:Hp}{h:Heap}{a:Addr}{u:HO}(r:Rd H a u)(x:fX P w H h):bR P w H h a u:=by
 rcases r with r| ⟨o,r⟩
 ·exact x a u r
 ·obtain ⟨_,q⟩:=x a _ r
  exact q
def By:Option HO→Prop
 |some (.lst _)=>True
 |some (.dK _)=>True
 |some (.dT _)=>True
 |some (.set _ _)=>True
 |some (.ins _ _ _)=>True
 |some (.ext _)=>True
 |_=>False
section
variable {P:Program} {w:World} {H:Hp} {h h':Heap} {x e:Addr} {o':HO}
theorem fX.write(ok:fX P w H h)(mu:By (H x))(he:e=x∨H e=some (.own x))(k:∀b u,b≠e→h.get? b=some u→h'.get? b=some u)(yg:∃u,h'.get? e=some u)
  (new:bR P w (upd H x o') h' x o'):fX P w (upd H x o') h':=λb u q=>by
 have Ef:∀c y,H c=some (.own y)→c≠x:=λc y r z=>by subst z;rw [r] at mu;exact mu
 have Ko:∀c xs,H c=some (.tup xs)→c≠x:=λc xs r z=>by subst z;rw [r] at mu;exact mu
 by_cases hb:b=x
 ·subst hb;rw [av] at q;cases q;exact new
 ·rw [ax hb] at q
  by_cases vG:b=e
  ·have q':H b=some (.own x):=by
    rcases he with z|z
    ·exact absurd (vG.trans z) hb
    ·rw [vG];exact z
   rw [q] at q';cases q';obtain ⟨v,hv⟩:=yg;exact ⟨v,by rw [vG];exact hv⟩
  ·refine (ok b u q).nX (λc v hc r=>k c v ?_ r) (λc r=>by rw [ax (Ef c b r)];exact r) λc xs r=>by rw [ax (Ko c xs r)];exact r
   rcases hc with rfl|hc
   ·exact vG
   ·rintro rfl
    rcases he with z|z
    ·exact Ef c b hc z
    ·rw [hc] at z;cases z;exact hb rfl
end
structure Un (fs ex:List Addr) (H H':Hp) (h h':Heap):Prop where
 keep:∀b o,h.get? b=some o→H b=none→b∉fs→b∉ex→h'.get? b=some o
 slot:∀b o,h.get? b=some o→H b=none→b∈fs→b∉ex→∃sl,h'.get? b=some {o with slots:=sl}
 free:∀b o,h.get? b=some o→H b=none→b∉ex→H' b=none
 there:∀b o,h.get? b=some o→b∉ex→∃o',h'.get? b=some o'
 tups:∀b xs,H b=some (.tup xs)→H' b=some (.tup xs)
 frzs:∀b o u,H b=some (.lH o u)→H' b=some (.lH o u)
 tbls:∀b ps,H b=some (.wL ps)→∃more,H' b=some (.wL (ps++more))
section
variable {fs Oa ex SG:List Addr} {H H1 H2:Hp} {h h1 h2 h':Heap} {a x e:Addr} {o:HO}
theorem Un.any(u:Un fs ex H H1 h h1){b:Addr}{ob:Obj}(q:h.get? b=some ob)(n:H b=none)(hx:b∉ex):∃sl,h1.get? b=some {ob with slots:=sl}:=by
 by_cases hb:b∈fs
 ·exact u.slot b ob q n hb hx
 ·exact ⟨ob.slots,u.keep b ob q n hb hx⟩
theorem Un.kept(k:∀b u,h.get? b=some u→h'.get? b=some u):Un fs ex H H h h':=
 ⟨λb ob q _ _ _=>k b ob q,λb ob q _ _ _=>⟨ob.slots,k b ob q⟩,λ_ _ _ n _=>n,λb ob q _=>⟨ob,k b ob q⟩,λ_ _ q=>q,λ_ _ _ q=>q,λ_ ps q=>⟨#[],by rw [q];simp⟩⟩
theorem Un.refl:Un fs ex H H h h:=Un.kept λ_ _ q=>q
theorem Un.laid(k:∀b u,h.get? b=some u→h'.get? b=some u)(hp:h.objs.size≤a)(hn:H a=none):Un fs ex H (upd H a o) h h' where
 keep:=λb u q _ _ _=>k b u q
 slot:=λb u q _ _ _=>⟨u.slots,k b u q⟩
 free:=λb u q n _=>by rw [ax (cn (eS (Heap.lt_size q) hp))];exact n
 there:=λb u q _=>⟨u,k b u q⟩
 tups:=λb xs q=>by rw [ax (aS q hn)];exact q
 frzs:=λb u xs q=>by rw [ax (aS q hn)];exact q
 tbls:=λb ps q=>⟨#[],by rw [ax (aS q hn),q];simp⟩
theorem Un.write(mu:By (H x))(he:e=x∨H e=some (.own x))(k:∀b u,b≠e→h.get? b=some u→h'.get? b=some u)(yg:∃u,h'.get? e=some u):Un fs ex H (upd H x o) h h':=by
 have hx:∀b,H b=none→b≠x:=λb n z=>by subst z;rw [n] at mu;exact mu
 have hb:∀b,H b=none→b≠e:=λb n z=>by
  subst z
  rcases he with r|r
  ·exact hx b n r
  ·rw [n] at r;cases r
 have hm:∀b u,H b=some u→¬By (some u)→b≠x:=λb u q nm z=>by subst z;rw [q] at mu;exact nm mu
 refine ⟨λb u q n _ _=>k b u (hb b n) q,λb u q n _ _=>⟨u.slots,k b u (hb b n) q⟩,λb u q n _=>by rw [ax (hx b n)];exact n,λb u q _=>?_,
  λb xs q=>by rw [ax (hm b _ q λz=>z)];exact q,λb u xs q=>by rw [ax (hm b _ q λz=>z)];exact q,λb ps q=>⟨#[],by rw [ax (hm b _ q λz=>z),q];simp⟩⟩
 by_cases vG:b=e
 ·subst vG;exact yg
 ·exact ⟨u,k b u vG q⟩
end
def Dg(h:Heap)(H:Hp):List Addr:=(List.range h.objs.size).filter λa=>(H a).isSome
def lK(h:Heap)(H:Hp):Heap:=PySem.W.hideAll h (Dg h H)
theorem vK(h:Heap)(H:Hp):(lK h H).objs.size=h.objs.size:=PySem.W.hideAll_size _ _
theorem yi{h:Heap}{H:Hp}{b:Addr}{o:Obj}(e:h.get? b=some o)(n:H b=none):(lK h H).get? b=some o:=
 PySem.W.hideAll_get _ e λhm=>by
  have q:(H b).isSome=true:=(u5.mp hm).2;rw [n] at q;simp at q
theorem As{h:Heap}{H:Hp}{b:Addr}{o:Obj}(e:(lK h H).get? b=some o):h.get? b=some o∧H b=none:=by
 have e':h.get? b=some o:=PySem.W.of_hideAll (Dg h H) e;refine ⟨e',?_⟩;cases q:H b with
 |none=>rfl
 |some x=>
  have hm:b∈Dg h H:=u5.mpr ⟨cN.mpr (Heap.lt_size e'),by simp [q]⟩
  have z:(lK h H).get? b=none:=PySem.W.hideAll_none (Dg h H) hm;rw [z] at e;cases e
structure Mod (K:PySem.W.Frag) (mg:Str→Option Value) (base:Heap):Prop where
 kin:K.In base
 glob:base.Ns mainGlobals mg
 blt:∃mb,base.Ns builtinsNs mb∧∀x:Str,x≠"__name__"→mb x=bootBuiltins x
 nolimit:base.NoLimit
structure Cx where
 prog:Program
 w:World
 K:PySem.W.Frag
 mg:Str→Option Value
 base:Heap
 A:Around
 N:List Str
 s₀:Shared
 H₀:Hp
 env:Env
 outer:List Env
 stack:List Env
 ex:List Addr
 fn:Str→Bool
 calm:Bool
 pn:List (Addr×Obj)
 xe:Value→Shared→Prop
def pN(l:List Env):List Addr:=l.filterMap (·.frame)
abbrev Cx.fs(X:Cx):List Addr:=pN X.outer
def iS(sc:Scope)(x:Str):Prop:=sc.names.lookup x=some .local∨sc.names.lookup x=some .cell∨sc.names.lookup x=some .free
def Loc(sc:Scope)(x:Str):Prop:=sc.names.lookup x=some .local∨sc.names.lookup x=some .cell
def Look(env:Env)(h:Heap)(m:Str→Option Value)(x:Str)(u:Value):Prop:=
 (env.kindOf x=some .local∧m x=some u)∨((env.kindOf x=some .cell∨env.kindOf x=some .free)∧∃c,env.cells.lookup x=some c∧h.IsCell c (some u))
structure Cx.Ok (X:Cx):Prop where
 mod:Mod X.K X.mg X.base
 kind:X.env.scope.kind= .function
 glob:X.env.globals=mainGlobals
 blt:X.env.builtins=builtinsNs
 above:X.s₀.heap.objs.size≤X.env.locals
 inj:∀x y c,X.env.cells.lookup x=some c→X.env.cells.lookup y=some c→x=y
 has:∀x,(X.env.kindOf x=some .cell∨X.env.kindOf x=some .free)→∃c,X.env.cells.lookup x=some c
 cab:∀x c,X.fn x=true→X.env.cells.lookup x=some c→X.s₀.heap.objs.size≤c
 hd:X.calm=true→X.A.handled=none
 frames:X.A.frames=some X.stack
 stk:X.stack=X.outer∨(X.stack=X.env::X.outer∧X.env.frame=some X.env.locals)
 exf:∀b∈X.ex,b≠X.env.locals∧∀x c,X.env.cells.lookup x=some c→c≠b
 bs:∀b o,X.base.get? b=some o→X.s₀.heap.get? b=some o∧X.H₀ b=none
 bsz:X.base.objs.size≤X.s₀.heap.objs.size
 noex:∀b o,X.base.get? b=some o→b∉X.ex
 exfs:∀b∈X.ex,b∉X.fs
 funs:X.s₀.heap.FunFrames X.base X.outer
 frf:∀b∈X.fs,X.H₀ b=none
structure Inv (X:Cx) (pins:List (Addr×Obj)) (σ:List (Option V)) (H:Hp) (s:Shared):Prop where
 ok:X.Ok
 os:s.os=X.s₀.os
 bare:AllBare s.gens
 base:Un X.fs X.ex X.H₀ H X.s₀.heap s.heap
 loc:∃m,s.heap.Ns X.env.locals m∧∀(i:Nat)(x:Str)(v:V),X.N[i]? =some x→σ[i]? =some (some v)→iS X.env.scope x→∃u,RelV v u∧Look X.env s.heap m x u
 cell:∀x c,X.env.cells.lookup x=some c→∃v,s.heap.IsCell c v
 free:H X.env.locals=none
 freeC:∀x c,X.env.cells.lookup x=some c→H c=none
 pin:∀p∈X.pn++pins,s.heap.get? p.1=some p.2∧H p.1=none∧p.1≠X.env.locals∧p.1∉X.fs∧∀v,p.2.data≠ .cell v
 hok:fX X.prog X.w H s.heap
 len:σ.length=X.N.length
section
variable {X:Cx} {pins:List (Addr×Obj)} {σ:List (Option V)} {H H':Hp} {s:Shared} {h':Heap}
theorem Cx.Ok.Kn(ok:X.Ok){b:Addr}{o:Obj}(e:X.base.get? b=some o):b∉X.fs:=λhb=>by
 have:=(ok.funs.mem hb).1
 rw [e] at this;cases this
theorem Inv.bs(I:Inv X pins σ H s):∀b o,X.base.get? b=some o→s.heap.get? b=some o∧H b=none:=λb o e=>
 ⟨I.base.keep b o (I.ok.bs b o e).1 (I.ok.bs b o e).2 (I.ok.Kn e) (I.ok.noex b o e),I.base.free b o (I.ok.bs b o e).1 (I.ok.bs b o e).2 (I.ok.noex b o e)⟩
theorem Inv.bk(I:Inv X pins σ H s):∀b o,X.base.get? b=some o→s.heap.get? b=some o:=λb o e=>(I.bs b o e).1
theorem Inv.mod(I:Inv X pins σ H s):Mod X.K X.mg X.base:=I.ok.mod
theorem Inv.fZ(I:Inv X pins σ H s):X.K.In s.heap:=I.ok.mod.kin.keeps I.bk
theorem Inv.lt(I:Inv X pins σ H s):X.env.locals<s.heap.objs.size:=let ⟨_,hn,_⟩:=I.loc;hn.lt
theorem Inv.sz(I:Inv X pins σ H s):X.s₀.heap.objs.size≤s.heap.objs.size:=jU I.ok.above (rY I.lt)
theorem Inv.Ee(I:Inv X pins σ H s){a:Addr}(h:s.heap.objs.size≤a):a∉X.fs:=λhb=>by
 obtain ⟨_,o,ho,_⟩:=I.ok.funs.mem hb;exact absurd (eS (Heap.lt_size ho) (jU I.sz h)) (jk _)
theorem Inv.vh(I:Inv X pins σ H s):∀x c,X.env.cells.lookup x=some c→c≠X.env.locals:=λx c e z=>by
 obtain ⟨v,o,ho,hd⟩:=I.cell x c e;obtain ⟨m,⟨o',es,ep,ic,jC,_⟩,_⟩:=I.loc;rw [z,ic] at ho;cases ho;rw [jC] at hd;cases hd
theorem Inv.funs(I:Inv X pins σ H s):s.heap.FunFrames X.base X.outer:=by
 have all:∀(l:List Env),(∀b∈pN l,b∈X.fs)→X.s₀.heap.FunFrames X.base l→s.heap.FunFrames X.base l:=by
  intro l
  induction l with
  |nil=>intro _ _;trivial
  |cons env r ih=>
   intro hs hl;obtain ⟨hk,⟨L,o,hf,hn,ho,hd⟩,hr⟩:=hl;have hL:L∈X.fs:=hs L (by unfold pN;rw [List.filterMap_cons,hf];exact fQ)
   obtain ⟨sl,e⟩:=I.base.slot L o ho (I.ok.frf L hL) hL λz=>I.ok.exfs L z hL;exact ⟨hk,⟨L,_,hf,hn,e,hd⟩,ih (λb hb=>hs b (by unfold pN;rw [List.filterMap_cons,hf];exact fJ _ hb)) hr⟩
 exact all X.outer (λ_ hb=>hb) I.ok.funs
theorem Inv.stack(I:Inv X pins σ H s):s.heap.FunFrames X.base X.stack:=by
 rcases I.ok.stk with e| ⟨e,hf⟩
 ·rw [e];exact I.funs
 ·rw [e]
  obtain ⟨m,hn,_⟩:=I.loc;refine .cons (by rw [I.ok.kind];decide) hf hn ?_ I.funs
  exact Heap.get?_none_of_le (jU I.ok.bsz I.ok.above)
theorem Inv.tF(I:Inv X pins σ H s):∀b∈pN X.stack,b∈X.env.locals::X.fs:=λb hb=>by
 rcases I.ok.stk with e| ⟨e,hf⟩
 ·rw [e] at hb;exact fJ _ hb
 ·rw [e] at hb
  unfold pN at hb;rw [List.filterMap_cons,hf] at hb;exact hb
theorem Inv.uR(I:Inv X pins σ H s):∀b∈pN X.stack,H b=none:=λb hb=>by
 rcases cV.mp (I.tF b hb) with e|hb
 ·rw [e];exact I.free
 ·obtain ⟨_,o,ho,_⟩:=I.ok.funs.mem hb
  exact I.base.free b o ho (I.ok.frf b hb) λz=>I.ok.exfs b z hb
theorem Inv.step{g':Array GenState}{t':Nat}{d':Drawn}{ch:List Addr}(I:Inv X pins σ H s)
  (qL:∀b∈ch,(b∈X.ex∨X.s₀.heap.objs.size≤b)∧b≠X.env.locals∧(∀x c,X.env.cells.lookup x=some c→c≠b)∧∀p∈X.pn++pins,p.1≠b)
  (keep:∀b o,b≠X.env.locals→b∉X.fs→b∉ch→s.heap.get? b=some o→H b=none→h'.get? b=some o)
  (slot:∀b o,b≠X.env.locals→b∈X.fs→b∉ch→s.heap.get? b=some o→H b=none→∃sl,h'.get? b=some {o with slots:=sl}) (free:∀b o,b∉ch→s.heap.get? b=some o→H b=none→H' b=none)
  (there:∀b o,b∉ch→s.heap.get? b=some o→∃o',h'.get? b=some o')
  (tups:∀b xs,H b=some (.tup xs)→H' b=some (.tup xs)) (frzs:∀b o u,H b=some (.lH o u)→H' b=some (.lH o u)) (tbls:∀b ps,H b=some (.wL ps)→∃more,H' b=some (.wL (ps++more)))
  (ns:∀m,s.heap.Ns X.env.locals m→h'.Ns X.env.locals m) (hok:fX X.prog X.w H' h') (hg:AllBare g'):
  Inv X pins σ H' {s with heap:=h',gens:=g',drawn:=d',toks:=t'}:=by
 have Kl:∀b o,X.s₀.heap.get? b=some o→b≠X.env.locals:=λb o e=>cn (eS (Heap.lt_size e) I.ok.above)
 have Co:∀b o,X.s₀.heap.get? b=some o→b∉X.ex→b∉ch:=λb o e hx hb=>by
  rcases (qL b hb).1 with z|z
  ·exact hx z
  ·exact absurd (eS (Heap.lt_size e) z) (jk _)
 have cellK:∀x c,X.env.cells.lookup x=some c→∀v,s.heap.IsCell c v→h'.IsCell c v:=λx c e v ⟨o,ho,hd⟩=>by
  have Ao:c∉ch:=λz=>(qL c z).2.2.1 x c e rfl
  by_cases hc:c∈X.fs
  ·obtain ⟨sl,q⟩:=slot c o (I.vh x c e) hc Ao ho (I.freeC x c e)
   exact ⟨_,q,hd⟩
  ·exact ⟨o,keep c o (I.vh x c e) hc Ao ho (I.freeC x c e),hd⟩
 refine ⟨I.ok,I.os,hg,⟨λb o e n hb hx=>?_,λb o e n hb hx=>?_,λb o e n hx=>?_,λb o e hx=>?_,λb xs e=>tups b xs (I.base.tups b xs e),λb o xs e=>frzs b o xs (I.base.frzs b o xs e),λb ps e=>?_⟩,?_,λx c e=>?_,?_,λx c e=>?_,λp hp=>?_,hok,I.len⟩
 ·exact keep b o (Kl b o e) hb (Co b o e hx) (I.base.keep b o e n hb hx) (I.base.free b o e n hx)
 ·obtain ⟨sl,e1⟩:=I.base.slot b o e n hb hx
  obtain ⟨RZ,e2⟩:=slot b _ (Kl b o e) hb (Co b o e hx) e1 (I.base.free b o e n hx);exact ⟨RZ,e2⟩
 ·obtain ⟨o',e1⟩:=I.base.there b o e hx
  exact free b o' (Co b o e hx) e1 (I.base.free b o e n hx)
 ·obtain ⟨o',e1⟩:=I.base.there b o e hx
  exact there b o' (Co b o e hx) e1
 ·obtain ⟨m1,e1⟩:=I.base.tbls b ps e
  obtain ⟨m2,e2⟩:=tbls b _ e1;exact ⟨m1++m2,by rw [e2,Array.append_assoc]⟩
 ·obtain ⟨m,hn,hl⟩:=I.loc
  refine ⟨m,ns m hn,λi x v e1 e2 e3=>?_⟩;obtain ⟨u,r,l⟩:=hl i x v e1 e2 e3;refine ⟨u,r,?_⟩
  rcases l with l| ⟨k,c,e,z⟩
  ·exact .inl l
  ·exact .inr ⟨k,c,e,cellK x c e _ z⟩
 ·obtain ⟨v,z⟩:=I.cell x c e
  exact ⟨v,cellK x c e v z⟩
 ·obtain ⟨m,⟨o,_,_,ho,_⟩,_⟩:=I.loc
  exact free _ o (λz=>(qL _ z).2.1 rfl) ho I.free
 ·obtain ⟨v,o,ho,hd⟩:=I.cell x c e
  exact free c o (λz=>(qL c z).2.2.1 x c e rfl) ho (I.freeC x c e)
 ·obtain ⟨e,n,ne,nf,d⟩:=I.pin p hp
  have Ao:p.1∉ch:=λz=>(qL p.1 z).2.2.2 p hp rfl;exact ⟨keep p.1 p.2 ne nf Ao e n,free p.1 p.2 Ao e n,ne,nf,d⟩
theorem Inv.un{t':Nat}(I:Inv X pins σ H s)(u:Un X.fs [] H H' s.heap h')(hok:fX X.prog X.w H' h'):Inv X pins σ H' {s with heap:=h',toks:=t'}:=by
 obtain ⟨m,⟨o,es,ep,ho,r⟩,_⟩:=id I.loc;obtain ⟨sl,hL⟩:=u.any ho I.free (by simp)
 exact I.step (g':=s.gens) (d':=s.drawn) (ch:= []) (λ_ z=>nomatch z) (λb o _ hb _ e n=>u.keep b o e n hb (by simp)) (λb o _ hb _ e n=>u.slot b o e n hb (by simp)) (λb o _ e n=>u.free b o e n (by simp)) (λb o _ e=>u.there b o e (by simp)) u.tups u.frzs u.tbls (λm' hm=>by
  obtain ⟨o',gz,su,ic,r'⟩:=hm;rw [ho] at ic;cases ic;exact ⟨_,gz,su,hL,r'⟩) hok I.bare
theorem Inv.call{g':Array GenState}{t':Nat}{d':Drawn}{ch:List Addr}(I:Inv X pins σ H s)(u:Un (pN X.stack) ch H H' s.heap h')(hok:fX X.prog X.w H' h')(hg:AllBare g')
  (qL:∀b∈ch,(b∈X.ex∨X.s₀.heap.objs.size≤b)∧b≠X.env.locals∧(∀x c,X.env.cells.lookup x=some c→c≠b)∧∀p∈X.pn++pins,p.1≠b):
  Inv X pins σ H' {s with heap:=h',gens:=g',drawn:=d',toks:=t'}:=by
 obtain ⟨m,⟨o,es,ep,ho,r⟩,_⟩:=id I.loc;obtain ⟨sl,hL⟩:=u.any ho I.free λz=>(qL _ z).2.1 rfl
 exact I.step (ch:=ch) qL (λb o hL hb hc e n=>u.keep b o e n (λz=>(cV.mp (I.tF b z)).elim hL hb) hc) (λb o _ _ hc e n=>u.any e n hc) (λb o hc e n=>u.free b o e n hc) (λb o hc e=>u.there b o e hc) u.tups u.frzs u.tbls (λm' hm=>by
  obtain ⟨o',gz,su,ic,r'⟩:=hm;rw [ho] at ic;cases ic;exact ⟨_,gz,su,hL,r'⟩) hok hg
theorem Inv.turned{t':Nat}{it:Addr}(I:Inv X pins σ H s)(k:∀b o,b≠it→s.heap.get? b=some o→h'.get? b=some o)(hn:H it=none)(hL:it≠X.env.locals)
  (h1:it∈X.ex∨X.s₀.heap.objs.size≤it) (h2:∀x c,X.env.cells.lookup x=some c→c≠it) (h3:∀p∈X.pn++pins,p.1≠it):Inv X pins σ H {s with heap:=h',toks:=t'}:=by
 have Km:∀b u,H b=some u→b≠it:=λb u e z=>by rw [z,hn] at e;cases e
 refine I.step (g':=s.gens) (d':=s.drawn) (ch:= [it]) (λb hb=>?_) (λb o _ _ hc e _=>k b o (λz=>hc (by simp [z])) e) (λb o _ _ hc e _=>⟨o.slots,k b o (λz=>hc (by simp [z])) e⟩) (λ_ _ _ _ n=>n)
  (λb o hc e=>⟨o,k b o (λz=>hc (by simp [z])) e⟩) (λ_ _ e=>e) (λ_ _ _ e=>e) (λb ps e=>⟨#[],by rw [e];simp⟩) (λm hm=>?_) (λb u e=>?_) I.bare
 ·have e:b=it:=by simpa using hb
  subst e;exact ⟨h1,hL,h2,h3⟩
 ·obtain ⟨o,es,ep,ho,r⟩:=hm
  exact ⟨o,es,ep,k _ o (Ne.symm hL) ho,r⟩
 ·refine (I.hok b u e).nX (λc v hc q=>k c v ?_ q) (λ_ q=>q) λ_ _ q=>q
  rcases hc with z|z
  ·rw [z];exact Km b u e
  ·exact Km c _ z
theorem Inv.tok(I:Inv X pins σ H s)(t:Nat):Inv X pins σ H {s with toks:=t}:=I.un (h':=s.heap) (t':=t) Un.refl I.hok
theorem Inv.kept{t':Nat}(I:Inv X pins σ H s)(k:∀b u,s.heap.get? b=some u→h'.get? b=some u):Inv X pins σ H {s with heap:=h',toks:=t'}:=I.un (Un.kept k) (I.hok.kept k)
theorem Inv.laid{a:Addr}{o:HO}{t':Nat}(I:Inv X pins σ H s)(k:∀b u,s.heap.get? b=some u→h'.get? b=some u)(hp:s.heap.objs.size≤a)(new:bR X.prog X.w (upd H a o) h' a o):
  Inv X pins σ (upd H a o) {s with heap:=h',toks:=t'}:=I.un (Un.laid k hp (I.hok.fresh hp)) (I.hok.laid k hp new)
theorem Inv.write{x e:Addr}{o:HO}{t':Nat}(I:Inv X pins σ H s)(mu:By (H x))(he:e=x∨H e=some (.own x))(k:∀b u,b≠e→s.heap.get? b=some u→h'.get? b=some u)(yg:∃u,h'.get? e=some u)
  (new:bR X.prog X.w (upd H x o) h' x o):Inv X pins σ (upd H x o) {s with heap:=h',toks:=t'}:=I.un (Un.write mu he k yg) (I.hok.write mu he k yg new)
theorem Inv.lY{sZ:List (Addr×Obj)}(I:Inv X pins σ H s)(h:∀p∈sZ,s.heap.get? p.1=some p.2∧H p.1=none∧p.1≠X.env.locals∧p.1∉X.fs∧∀v,p.2.data≠ .cell v):Inv X sZ σ H s:=
 ⟨I.ok,I.os,I.bare,I.base,I.loc,I.cell,I.free,I.freeC,λp hp=>(cu.mp hp).elim (λz=>I.pin p (fV _ z)) (h p),I.hok,I.len⟩
theorem rJ{N:List Str}(hN:N.Nodup){i j:Nat}{x:Str}(a:N[i]? =some x)(b:N[j]? =some x):i=j:=by
 obtain ⟨h1,e1⟩:=eo.mp a;obtain ⟨h2,e2⟩:=eo.mp b;exact (List.getElem_inj hN).mp (e1.trans e2.symm)
theorem store_ok2{M:Model}{A:Around}{E:Value→Shared→Prop}{i:Nat}{x:Str}{v:V}{u:Value}{Q:Unit→Shared→Prop}(I:Inv X pins σ H s)(hN:X.N.Nodup)(hi:X.N[i]? =some x)(hx:Loc X.env.scope x)(r:RelV v u)
  (h:∀s',Inv X pins (σ.set i (some v)) H s'→(∃a,Heap.SameBut a s.heap s'.heap∧(a=X.env.locals∨X.env.cells.lookup x=some a))→Q () s') (hf:X.fn x=true∨X.env.scope.names.lookup x=some .local:=by first|exact .inl rfl|exact .inr rfl|assumption):wpAny M A (storeName X.env x u) Q E s:=by
 obtain ⟨m,hn,hl⟩:=id I.loc;have Jq:(X.env.scope.kind== .class|| (X.env.scope.kind== .module&&X.env.locals !=X.env.globals))=false:=by rw [I.ok.kind];rfl
 have Ea:i<σ.length:=by rw [I.len];exact (eo.mp hi).1
 have vh:=I.vh
 have tracked:∀{a:Addr}{h':Heap},(∃o,s.heap.get? a=some o∧H a=none)→Heap.SameBut a s.heap h'→fX X.prog X.w H h':=λ {a h'} ha hs b ob e=>by
  obtain ⟨_,_,zW⟩:=ha;refine (I.hok b ob e).nX (λc w' hc q=>(hs.2 c ?_).trans q) (λ_ q=>q) λ_ _ q=>q;rintro rfl
  rcases hc with rfl|hc
  ·rw [zW] at e;cases e
  ·rw [zW] at hc;cases hc
 rcases hx with hk|hk
 ·refine wpAny_storeName_local hk hn (λh' OO hs=>?_) Jq
  obtain ⟨oL,_,_,z3,_⟩:=id hn;refine h _ ⟨I.ok,I.os,I.bare,⟨λb o e n hb hx=>?_,λb o e n hb hx=>?_,I.base.free,λb o e hx=>?_,I.base.tups,I.base.frzs,I.base.tbls⟩,⟨_,OO,λj y v' e1 e2 e3=>?_⟩,λy c e=>?_,I.free,I.freeC,λp hp=>?_,tracked ⟨oL,z3,I.free⟩ hs,by simpa using I.len⟩ ⟨_,hs, .inl rfl⟩
  ·exact (hs.2 b (cn (eS (Heap.lt_size e) I.ok.above))).trans (I.base.keep b o e n hb hx)
  ·obtain ⟨sl,e1⟩:=I.base.slot b o e n hb hx
   exact ⟨sl,(hs.2 b (cn (eS (Heap.lt_size e) I.ok.above))).trans e1⟩
  ·obtain ⟨o',e1⟩:=I.base.there b o e hx
   exact ⟨o',(hs.2 b (cn (eS (Heap.lt_size e) I.ok.above))).trans e1⟩
  ·by_cases hj:j=i
   ·subst hj
    rw [hi] at e1;cases e1;rw [gO Ea] at e2;cases e2;exact ⟨u,r, .inl ⟨hk,by simp⟩⟩
   ·rw [gP (Ne.symm hj)] at e2
    obtain ⟨u',r',q⟩:=hl j y v' e1 e2 e3;refine ⟨u',r',?_⟩
    rcases q with ⟨k,e⟩ | ⟨k,c,e,z⟩
    ·refine .inl ⟨k,?_⟩
     have:y≠x:=λe=>hj (rJ hN e1 (e▸hi))
     simp [this,e]
    ·exact .inr ⟨k,c,e,z.sameBut hs (vh y c e)⟩
  ·obtain ⟨w',z⟩:=I.cell y c e
   exact ⟨w',z.sameBut hs (vh y c e)⟩
  ·obtain ⟨e,n,ne,nf,d⟩:=I.pin p hp
   exact ⟨(hs.2 p.1 ne).trans e,n,ne,nf,d⟩
 ·have FJ:X.fn x=true:=by
   rcases hf with z|z
   ·exact z
   ·rw [z] at hk;cases hk
  obtain ⟨c,hc⟩:=I.ok.has x (.inl hk);obtain ⟨w',z⟩:=I.cell x c hc;refine wpAny_storeName_cell I.ok.kind hk hc z (λh' pR hs=>?_);obtain ⟨oc,JD,JE⟩:=id z;refine h {s with heap:=h'} ⟨I.ok,I.os,I.bare,⟨λb o e n hb hx=>?_,λb o e n hb hx=>?_,I.base.free,λb o e hx=>?_,I.base.tups,I.base.frzs,I.base.tbls⟩,⟨m,hn.sameBut hs (Ne.symm (vh x c hc)),λj y v' e1 e2 e3=>?_⟩,λy c' e=>?_,I.free,I.freeC,λp hp=>?_,tracked ⟨oc,JD,I.freeC x c hc⟩ hs,by simpa using I.len⟩ ⟨c,hs, .inr hc⟩
  ·exact (hs.2 b (cn (eS (Heap.lt_size e) (I.ok.cab x c FJ hc)))).trans (I.base.keep b o e n hb hx)
  ·obtain ⟨sl,e1⟩:=I.base.slot b o e n hb hx
   exact ⟨sl,(hs.2 b (cn (eS (Heap.lt_size e) (I.ok.cab x c FJ hc)))).trans e1⟩
  ·obtain ⟨o',e1⟩:=I.base.there b o e hx
   exact ⟨o',(hs.2 b (cn (eS (Heap.lt_size e) (I.ok.cab x c FJ hc)))).trans e1⟩
  ·by_cases hj:j=i
   ·subst hj
    rw [hi] at e1;cases e1;rw [gO Ea] at e2;cases e2;exact ⟨u,r, .inr ⟨.inl hk,c,hc,pR⟩⟩
   ·rw [gP (Ne.symm hj)] at e2
    obtain ⟨u',r',q⟩:=hl j y v' e1 e2 e3;refine ⟨u',r',?_⟩
    rcases q with q| ⟨k,c',e,z'⟩
    ·exact .inl q
    ·refine .inr ⟨k,c',e,z'.sameBut hs ?_⟩
     rintro rfl;exact hj (rJ hN e1 (I.ok.inj _ _ _ e hc▸hi))
  ·by_cases Jo:c'=c
   ·subst Jo;exact ⟨_,pR⟩
   ·obtain ⟨w2,z2⟩:=I.cell y c' e
    exact ⟨w2,z2.sameBut hs Jo⟩
  ·obtain ⟨e,n,ne,nf,d⟩:=I.pin p hp
   refine ⟨(hs.2 p.1 ?_).trans e,n,ne,nf,d⟩;intro q;rw [q,JD] at e;have q':oc=p.2:=Option.some.inj e;exact d w' (by rw [←q'];exact JE)
theorem nu{M:Model}{A:Around}{E:Value→Shared→Prop}{i:Nat}{x:Str}{v:V}{u:Value}{Q:Unit→Shared→Prop}(I:Inv X pins σ H s)(hN:X.N.Nodup)(hi:X.N[i]? =some x)(hx:Loc X.env.scope x)(r:RelV v u)
  (h:∀s',Inv X pins (σ.set i (some v)) H s'→Q () s') (hf:X.fn x=true∨X.env.scope.names.lookup x=some .local:=by first|exact .inl rfl|exact .inr rfl|assumption):wpAny M A (storeName X.env x u) Q E s:=
 store_ok2 I hN hi hx r (λs' I' _=>h s' I') hf
theorem Inv.EC{s':Shared}{ch:List Addr}(I:Inv X pins σ H s)(ho:s'.os=s.os)(u:Un (pN X.stack) ch H H' s.heap s'.heap)(hok:fX X.prog X.w H' s'.heap)(hg:AllBare s'.gens)
  (qL:∀b∈ch,(b∈X.ex∨X.s₀.heap.objs.size≤b)∧b≠X.env.locals∧(∀x c,X.env.cells.lookup x=some c→c≠b)∧∀p∈X.pn++pins,p.1≠b):Inv X pins σ H' s':=by
 obtain ⟨h',g',d',t',o'⟩:=s';have e:o'=s.os:=ho;subst e;exact I.call (g':=g') (t':=t') (d':=d') u hok hg qL
end
abbrev XK:=Value→Option Addr→Hp→Prop
abbrev St:=List (Option V)
abbrev VK:=V→Hp→Prop
abbrev TE:=St→Hp→VK→Prop
abbrev TT:=St→Hp→(Bool→Hp→Prop)→Prop
abbrev TA:=St→Hp→(List V→Hp→Prop)→Prop
structure Ends where
 nx:St→Hp→Prop
 rt:VK
 bk:St→Hp→Prop:=λ_ _=>False
 ct:St→Hp→Prop:=λ_ _=>False
abbrev TS:=Ends→St→Hp→Prop
def EP(X:Cx)(pins:List (Addr×Obj))(σ:St)(Q:VK)(u:Value)(s':Shared):Prop:=∃v H',Inv X pins σ H' s'∧RelV v u∧Q v H'
def TP(X:Cx)(pins:List (Addr×Obj))(σ:St)(Q:Bool→Hp→Prop)(b:Bool)(s':Shared):Prop:=∃H',Inv X pins σ H' s'∧Q b H'
def AP(X:Cx)(pins:List (Addr×Obj))(σ:St)(Q:List V→Hp→Prop)(us:List Value)(s':Shared):Prop:=∃vs H',Inv X pins σ H' s'∧Vals vs us∧Q vs H'
def SP(X:Cx)(pins:List (Addr×Obj))(D:Ends)(f:Flow)(s':Shared):Prop:=
 match f with
 | .next=>∃aI H',Inv X pins aI H' s'∧D.nx aI H'
 | .brk=>∃aI H',Inv X pins aI H' s'∧D.bk aI H'
 | .cont=>∃aI H',Inv X pins aI H' s'∧D.ct aI H'
 | .ret u=>∃v aI H',Inv X pins aI H' s'∧RelV v u∧D.rt v H'
def PE(X:Cx)(e:Expr)(t:TE):Prop:=
 ∀(pins:List (Addr×Obj))(s:Shared)(σ:St)(H:Hp)(Q:VK),Inv X pins σ H s→t σ H Q→wpAny (model X.prog X.w) X.A (eval e X.env) (EP X pins σ Q) X.xe s
def PT(X:Cx)(e:Expr)(t:TT):Prop:=
 ∀(pins:List (Addr×Obj))(s:Shared)(σ:St)(H:Hp)(Q:Bool→Hp→Prop),Inv X pins σ H s→t σ H Q→wpAny (model X.prog X.w) X.A (isTrue e X.env (eval e X.env)) (TP X pins σ Q) X.xe s
def PW(X:Cx)(e:Expr)(t:TT):Prop:=
 ∀(whole:Sem Value)(pins:List (Addr×Obj))(s:Shared)(σ:St)(H:Hp)(Q:Bool→Hp→Prop),Inv X pins σ H s→t σ H Q→wpAny (model X.prog X.w) X.A (isTrue e X.env whole) (TP X pins σ Q) X.xe s
theorem PW.pt{X:Cx}{e:Expr}{t:TT}(h:PW X e t):PT X e t:=h _
def PA(X:Cx)(es:List Expr)(t:TA):Prop:=
 ∀(pos:Pos)(pins:List (Addr×Obj))(s:Shared)(σ:St)(H:Hp)(Q:List V→Hp→Prop),Inv X pins σ H s→t σ H Q→wpAny (model X.prog X.w) X.A (spliced (backTo pos (starEach es X.env))) (AP X pins σ Q) X.xe s
def PS(X:Cx)(st:Stmt)(t:TS):Prop:=
 ∀(pins:List (Addr×Obj))(s:Shared)(σ:St)(H:Hp)(D:Ends),Inv X pins σ H s→t D σ H→wpAny (model X.prog X.w) X.A (exec st X.env) (SP X pins D) X.xe s
def jt(X:Cx)(st:List Stmt)(t:TS):Prop:=
 ∀(pins:List (Addr×Obj))(s:Shared)(σ:St)(H:Hp)(D:Ends),Inv X pins σ H s→t D σ H→wpAny (model X.prog X.w) X.A (execs st X.env) (SP X pins D) X.xe s
theorem thn{α:Type}{t:Sem α}{Q Q':α→Shared→Prop}{M:Model}{A:Around}{E:Value→Shared→Prop}{s:Shared}(h:wpAny M A t Q E s)(hQ:∀a s,Q a s→Q' a s):wpAny M A t Q' E s:=wpAny_mono h hQ λ_ _ x=>x
section
variable {X:Cx}
def Er(i:Nat):TE:=λσ H Q=>∃v,σ[i]? =some (some v)∧Q v H
def tC(v:V):TE:=λ_ H Q=>Q v H
theorem sY{i:Nat}{x:Str}{pos:Pos}(hN:X.N[i]? =some x)(hv:iS X.env.scope x)(hd:(x==("__debug__":Str))=false:=by decide)(cI:(x==("__classdict__":Str))=false:=by decide):PE X (.Name x pos) (Er i):=by
 intro pins s σ H Q I h;obtain ⟨v,e,h⟩:=h;obtain ⟨m,hn,hl⟩:=I.loc;obtain ⟨u,r,l⟩:=hl i x v hN e hv;have fin:EP X pins σ Q u s:=⟨v,H,I,r,h⟩
 rcases l with ⟨hk,hm⟩ | ⟨hk,c,hc,zS⟩
 ·exact wpAny_Name (wpAny_loadName_local I.ok.kind hk hn hm fin) hd
 ·rcases hk with hk|hk
  ·exact wpAny_Name (wpAny_loadName_cell I.ok.kind hk hc zS fin) hd
  ·exact wpAny_Name (wpAny_loadName_free I.ok.kind hk hc zS fin cI) hd
theorem CI{i j pos}:PE X (.Constant (.int i) j pos) (tC (.int i)):=λ_ _ _ H _ I h=>wpAny_Constant_int ⟨.int i,H,I.tok _,⟨_,rfl⟩,h⟩
theorem Gk{b j pos}:PE X (.Constant (.bool b) j pos) (tC (.bl b)):=λ_ _ _ H _ I h=>Constant_bool ⟨.bl b,H,I,rfl,h⟩
theorem CJ{j pos}:PE X (.Constant .none j pos) (tC .aT):=λ_ _ _ H _ I h=>Constant_none ⟨.aT,H,I,rfl,h⟩
theorem CM{x j pos}:PE X (.Constant (.str x) j pos) (tC (.str x)):=λ_ _ _ H _ I h=>Calls.Constant_str ⟨.str x,H,I.tok _,⟨_,rfl⟩,h⟩
def Gl(X:Cx)(x:Str):Prop:=X.env.kindOf x=some .globalImplicit
theorem pY{E:Value→Shared→Prop}{pins:List (Addr×Obj)}{s:Shared}{σ:St}{H:Hp}{x:Str}{u:Value}{pos:Pos}{Q:Value→Shared→Prop}(I:Inv X pins σ H s)(hg:Gl X x)(hm:X.mg x=some u)(h:Q u s)
  (hd:(x==("__debug__":Str))=false:=by decide):wpAny (model X.prog X.w) X.A (eval (.Name x pos) X.env) Q E s:=
 Calls.Name_function_global I.ok.kind hg (Calls.loadGlobal_global (by rw [I.ok.glob];exact I.mod.glob.keeps I.bk) hm h) hd
theorem fh{E:Value→Shared→Prop}{pins:List (Addr×Obj)}{s:Shared}{σ:St}{H:Hp}{x:Str}{u:Value}{pos:Pos}{Q:Value→Shared→Prop}(I:Inv X pins σ H s)(hg:Gl X x)(hm:X.mg x=none)(hv:bootBuiltins x=some u)(h:Q u s)
  (hn:x≠"__name__":=by decide) (hd:(x==("__debug__":Str))=false:=by decide):wpAny (model X.prog X.w) X.A (eval (.Name x pos) X.env) Q E s:=by
 obtain ⟨mb,h1,h2⟩:=I.mod.blt;exact Calls.Name_function_global I.ok.kind hg (Calls.loadGlobal_builtin (by rw [I.ok.glob];exact I.mod.glob.keeps I.bk) hm (by rw [I.ok.blt];exact h1.keeps I.bk) ((h2 x hn).trans hv) h) hd
theorem AF{x:Str}{v:V}{u:Value}{pos:Pos}(hg:Gl X x)(hm:X.mg x=some u)(r:RelV v u)(hd:(x==("__debug__":Str))=false:=by decide):PE X (.Name x pos) (tC v):=
 λ_ _ _ H _ I h=>pY I hg hm ⟨v,H,I,r,h⟩ hd
theorem AB{x:Str}{v:V}{u:Value}{pos:Pos}(hg:Gl X x)(hm:X.mg x=none)(hv:bootBuiltins x=some u)(r:RelV v u)(hn:x≠"__name__":=by decide)(hd:(x==("__debug__":Str))=false:=by decide):PE X (.Name x pos) (tC v):=
 λ_ _ _ H _ I h=>fh I hg hm hv ⟨v,H,I,r,h⟩ hn hd
variable {a b:Expr} {ta tb:TE} {pos:Pos}
variable {tA tG:TT} {rest:List Expr}
def L7(t u:TT):TT:=λσ H Q=>t σ H λc H1=>if c=true then u σ H1 Q else Q false H1
def Sb(t u:TT):TT:=λσ H Q=>t σ H λc H1=>if c=true then Q true H1 else u σ H1 Q
def Mf(t:TT):TT:=λσ H Q=>t σ H λc H1=>Q (!c) H1
theorem AX(ha:PT X a tA):PW X (.BoolOp .And [a] pos) tA:=by
 intro wh pins s σ H Q I h;refine isTrue_and (thn (ha pins s σ H Q I h) λc s1 e=>?_);cases c with
 |true=>exact isTrue_and_nil e
 |false=>exact e
theorem CV(ha:PT X a tA):PW X (.BoolOp .Or [a] pos) tA:=by
 intro wh pins s σ H Q I h;refine isTrue_or (thn (ha pins s σ H Q I h) λc s1 e=>?_);cases c with
 |false=>exact isTrue_or_nil e
 |true=>exact e
theorem CU(ha:PT X a tA)(hb:PW X (.BoolOp .And (b::rest) pos) tG):PW X (.BoolOp .And (a::b::rest) pos) (L7 tA tG):=by
 intro wh pins s σ H Q I h;refine isTrue_and (thn (ha pins s σ H _ I h) λc s1 ⟨H1,I1,q1⟩=>?_);cases c with
 |true=>exact hb wh pins s1 σ H1 Q I1 q1
 |false=>exact ⟨H1,I1,q1⟩
theorem Gp(ha:PT X a tA)(hb:PW X (.BoolOp .Or (b::rest) pos) tG):PW X (.BoolOp .Or (a::b::rest) pos) (Sb tA tG):=by
 intro wh pins s σ H Q I h;refine isTrue_or (thn (ha pins s σ H _ I h) λc s1 ⟨H1,I1,q1⟩=>?_);cases c with
 |true=>exact ⟨H1,I1,q1⟩
 |false=>exact hb wh pins s1 σ H1 Q I1 q1
theorem CT(ha:PT X a tA):PT X (.UnaryOp .Not a pos) (Mf tA):=by
 intro pins s σ H Q I h;exact isTrue_not (ha pins s σ H (λc H1=>Q (!c) H1) I h)
def Gz(ta tb:TE):TE:=λσ H Q=>ta σ H λx H1=>∃c,x= .bl c∧if c=true then tb σ H1 Q else Q (.bl false) H1
def GG(ta:TE):TE:=λσ H Q=>ta σ H λx H1=>∃c,x= .bl c∧Q (.bl (!c)) H1
theorem CL{op}{t:TE}(h:PE X a t):PE X (.BoolOp op [a] pos) t:=λpins s σ H Q I hw=>BoolOp_one (h pins s σ H Q I hw)
theorem CF(ha:PE X a ta)(hb:PE X (.BoolOp .And (b::rest) pos) tb):PE X (.BoolOp .And (a::b::rest) pos) (Gz ta tb):=by
 intro pins s σ H Q I h;refine BoolOp_and (thn (ha pins s σ H _ I h) λv s1 ⟨x,H1,I1,r1,q1⟩=>?_);obtain ⟨c,rfl,q1⟩:=q1;cases r1;refine wpAny_truthy_bool ?_;cases c with
 |true=>exact hb pins s1 σ H1 Q I1 q1
 |false=>exact ⟨.bl false,H1,I1,rfl,q1⟩
theorem CK(ha:PE X a ta):PE X (.UnaryOp .Not a pos) (GG ta):=by
 intro pins s σ H Q I h;refine UnaryOp_ (thn (ha pins s σ H _ I h) λv s1 ⟨x,H1,I1,r1,q1⟩=>?_);obtain ⟨c,rfl,q1⟩:=q1;cases r1;exact not_of (wpAny_truthy_bool ⟨.bl (!c),H1,I1,rfl,q1⟩)
end
def bE(K:PySem.W.Frag)(H:Hp)(a:Addr)(xs:List V):Prop:=
 Rd H a (.lst xs)∨
  ∃(o:Obj)(its:Array Value)(n:Nat),K.lookup a=some o∧o.cls= .type "list"∧o.dict=none∧o.data= .seq its n∧its.size≤sizeLine∧Vals xs its.toList
def ed(K:PySem.W.Frag)(H:Hp)(a:Addr)(xs:List V):Prop:=
 Rd H a (.tup xs)∨
  ∃(o:Obj)(its:Array Value)(n:Nat),K.lookup a=some o∧o.cls= .type "tuple"∧o.data= .seq its n∧its.size≤sizeLine∧Vals xs its.toList
def GZ:Value→Option V
 | .none=>some .aT
 | .bool b=>some (.bl b)
 | .int i _=>some (.int i)
 | .str x _=>some (.str x)
 | .bytes b _=>some (.xP b)
 | .float b _=>some (.vy b)
 | .ref a=>some (.ref a)
 | .type n=>some (.ty n)
 |_=>none
theorem RelV.abs{x:V}{u:Value}(r:RelV x u):GZ u=some x:=by
 cases x with
 |aT=>cases r;rfl
 |bl _=>cases r;rfl
 |int _=>obtain ⟨t,rfl⟩:=r;rfl
 |str _=>obtain ⟨t,rfl⟩:=r;rfl
 |xP _=>obtain ⟨t,rfl⟩:=r;rfl
 |vy _=>obtain ⟨t,rfl⟩:=r;rfl
 |ref _=>cases r;rfl
 |ty _=>cases r;rfl
theorem RelV.inj{x y:V}{u:Value}(r:RelV x u)(q:RelV y u):x=y:=Option.some.inj (r.abs.symm.trans q.abs)
theorem Vals.inj:∀{xs ys:List V}{us:List Value},Vals xs us→Vals ys us→xs=ys
 |_,_,_, .nil, .nil=>rfl
 |_,_,_, .cons r t, .cons r' t'=>by rw [r.inj r',Vals.inj t t']
section
variable {X:Cx} {pins:List (Addr×Obj)} {σ:St} {H:Hp} {s:Shared} {a:Addr} {xs ys:List V}
theorem bE.of{K:PySem.W.Frag}(h:H a=some (.lst xs)):bE K H a xs:= .inl (.inl h)
theorem ed.of{K:PySem.W.Frag}(h:H a=some (.tup xs)):ed K H a xs:= .inl (.inl h)
theorem Inv.list(I:Inv X pins σ H s)(h:bE X.K H a xs):∃its:List Value,Vals xs its∧PlainL s.heap a its.toArray∧xs.length≤sizeLine:=by
 rcases h with h| ⟨o,its,n,hk,hc,hd,hs,hz,r⟩
 ·obtain ⟨z,its,n,r,e⟩:=h.ok I.hok
  exact ⟨its,r,⟨_,n,e,rfl,rfl,rfl⟩,z⟩
 ·refine ⟨its.toList,r,⟨o,n,I.fZ a o hk,hc,hd,by simpa using hs⟩,?_⟩
  have e:=r.length;simp only [fH] at e;omega
theorem Inv.tuple(I:Inv X pins σ H s)(h:ed X.K H a xs):∃its:List Value,Vals xs its∧IsTup s.heap a its.toArray∧xs.length≤sizeLine:=by
 rcases h with h| ⟨o,its,n,hk,hc,hs,hz,r⟩
 ·obtain ⟨z,its,r,p⟩:=h.ok I.hok
  exact ⟨its,r,p,z⟩
 ·refine ⟨its.toList,r,⟨o,I.fZ a o hk,hc,n,by simpa using hs⟩,?_⟩
  have e:=r.length;simp only [fH] at e;omega
theorem Inv.mT(I:Inv X pins σ H s)(h:bE X.K H a xs)(h':bE X.K H a ys):xs=ys:=by
 obtain ⟨its,r,⟨o,n,e,_,_,d⟩,_⟩:=I.list h;obtain ⟨its',r',⟨o',n',e',_,_,d'⟩,_⟩:=I.list h';rw [e] at e';cases e';rw [d] at d'
 injection d' with d1 _
 have:its=its':=by simpa using congrArg Array.toList d1
 subst this;exact r.inj r'
end
abbrev Cx.kz(X:Cx)(E:Value→Shared→Prop):Cx:={X with xe:=E}
abbrev Cx.qa(X:Cx):Cx:=X.kz λ_ _=>False
theorem Cx.Ok.kz{X:Cx}(ok:X.Ok)(E:Value→Shared→Prop):(X.kz E).Ok:=
 ⟨ok.mod,ok.kind,ok.glob,ok.blt,ok.above,ok.inj,ok.has,ok.cab,ok.hd,ok.frames,ok.stk,ok.exf,ok.bs,ok.bsz,ok.noex,ok.exfs,ok.funs,ok.frf⟩
theorem Cx.Ok.h7{X:Cx}{E:Value→Shared→Prop}(ok:(X.kz E).Ok):X.Ok:=
 ⟨ok.mod,ok.kind,ok.glob,ok.blt,ok.above,ok.inj,ok.has,ok.cab,ok.hd,ok.frames,ok.stk,ok.exf,ok.bs,ok.bsz,ok.noex,ok.exfs,ok.funs,ok.frf⟩
section
variable {X:Cx} {pins:List (Addr×Obj)} {σ:St} {H:Hp} {s:Shared} {E:Value→Shared→Prop}
theorem Inv.kz(I:Inv X pins σ H s)(E:Value→Shared→Prop):Inv (X.kz E) pins σ H s:=⟨I.ok.kz E,I.os,I.bare,I.base,I.loc,I.cell,I.free,I.freeC,I.pin,I.hok,I.len⟩
theorem Inv.h7(I:Inv (X.kz E) pins σ H s):Inv X pins σ H s:=⟨I.ok.h7,I.os,I.bare,I.base,I.loc,I.cell,I.free,I.freeC,I.pin,I.hok,I.len⟩
theorem SP.h7{D:Ends}{f:Flow}{s':Shared}(h:SP (X.kz E) pins D f s'):SP X pins D f s':=by
 cases f with
 |next=>obtain ⟨aI,H',I,q⟩:=h;exact ⟨aI,H',I.h7,q⟩
 |brk=>obtain ⟨aI,H',I,q⟩:=h;exact ⟨aI,H',I.h7,q⟩
 |cont=>obtain ⟨aI,H',I,q⟩:=h;exact ⟨aI,H',I.h7,q⟩
 |ret u=>obtain ⟨v,aI,H',I,r,q⟩:=h;exact ⟨v,aI,H',I.h7,r,q⟩
theorem jt.qa{st:List Stmt}{t:TS}(h:jt X.qa st t):jt X st t:=λpins s σ H D I hw=>
 wpAny_mono (h pins s σ H D (I.kz _) hw) (λ_ _ q=>q.h7) λ_ _ z=>False.elim z
end
section
variable {X:Cx} {st:Stmt} {rest:List Stmt} {t u:TS} {e:Expr} {te:TE} {pos:Pos}
def GF:TS:=λD σ H=>D.nx σ H
def Mh(t u:TS):TS:=λD σ H=>t {D with nx:=u D} σ H
theorem uG:jt X [] GF:=λ_ _ σ H _ I h=>wpAny_execs_nil ⟨σ,H,I,h⟩
theorem dU(h1:PS X st t)(h2:jt X rest u):jt X (st::rest) (Mh t u):=by
 intro pins s σ H D I h;refine wpAny_execs_cons (thn (h1 pins s σ H {D with nx:=u D} I h) λf s1 q=>?_)
 cases f with
 |next=>
  obtain ⟨aI,H',I',q⟩:=q;exact h2 pins s1 aI H' D I' q
 |ret v=>exact q
 |brk=>exact q
 |cont=>exact q
theorem qp(h1:PS X st t):jt X [st] t:=by
 intro pins s σ H D I h;refine wpAny_execs_cons (thn (h1 pins s σ H D I h) λf s1 q=>?_);cases f with
 |next=>exact wpAny_execs_nil q
 |ret v=>exact q
 |brk=>exact q
 |cont=>exact q
theorem Inv.quiet{pins:List (Addr×Obj)}{σ:St}{H:Hp}{s:Shared}(I:Inv X pins σ H s):interactive X.env=false:=by simp [interactive,I.ok.kind]
def GC(te:TE):TS:=λD σ H=>te σ H λ_ H1=>D.nx σ H1
theorem jH(he:PE X e te)(hs:swapsWith e none pos.line X.env=pure false:=by rfl):PS X (.Expr e pos) (GC te):=by
 intro pins s σ H D I h;exact wpAny_Expr_any (thn (he pins s σ H _ I h) λv s1 ⟨x,H1,I1,r1,q1⟩=>⟨σ,H1,I1,q1⟩) I.quiet hs
def Mg(te:TE):TS:=λD σ H=>te σ H D.rt
theorem tq(he:PE X e te):PS X (.Return (some e) pos) (Mg te):=by
 intro pins s σ H D I h;exact wpAny_Return_some (thn (he pins s σ H _ I h) λv s1 ⟨x,H1,I1,r1,q1⟩=>⟨x,σ,H1,I1,r1,q1⟩)
def Md(c:TT)(t u:TS):TS:=λD σ H=>c σ H λb H1=>if b=true then t D σ H1 else u D σ H1
theorem AQ{c:Expr}{a b:List Stmt}{tc:TT}(hc:PT X c tc)(ha:jt X a t)(hb:jt X b u):PS X (.If c a b pos) (Md tc t u):=by
 intro pins s σ H D I h;refine wpAny_If (thn (hc pins s σ H _ I h) λd s1 ⟨H1,I1,q1⟩=>?_);cases d with
 |true=>exact ha pins s1 σ H1 D I1 q1
 |false=>exact hb pins s1 σ H1 D I1 q1
def Dd:TS:=λ_ _ _=>False
theorem yF:PS X st Dd:=λ_ _ _ _ _ _ h=>h.elim
end
abbrev TG:=V→St→Hp→(St→Hp→Prop)→Prop
abbrev rZ:=List V→St→Hp→(St→Hp→Prop)→Prop
def PG(X:Cx)(target:Expr)(t:TG):Prop:=
 ∀(pins:List (Addr×Obj))(s:Shared)(σ:St)(H:Hp)(v:V)(u:Value)(Q:St→Hp→Prop),Inv X pins σ H s→RelV v u→t v σ H Q→
  wpAny (model X.prog X.w) X.A (assign target X.env u) (λ_ s'=>∃aI H',Inv X pins aI H' s'∧Q aI H') X.xe s
def tK(X:Cx)(ts:List Expr)(t:rZ):Prop:=
 ∀(pins:List (Addr×Obj))(s:Shared)(σ:St)(H:Hp)(vs:List V)(us:List Value)(Q:St→Hp→Prop),Inv X pins σ H s→Vals vs us→t vs σ H Q→
  wpAny (model X.prog X.w) X.A (assignInOrder ((assignEach ts X.env).map (·.2)) us) (λ_ s'=>∃aI H',Inv X pins aI H' s'∧Q aI H') X.xe s
abbrev y0:=V→V→V→Hp→(Hp→Prop)→Prop
def Dq(X:Cx)(t:y0):Prop:=
 ∀(pins:List (Addr×Obj))(s:Shared)(σ:St)(H:Hp)(o i v:V)(ov iv u:Value)(Q:Hp→Prop),Inv X pins σ H s→RelV o ov→RelV i iv→RelV v u→t o i v H Q→
  wpAny (model X.prog X.w) X.A (setItem ov iv u) (λ_ s'=>∃H',Inv X pins σ H' s'∧Q H') X.xe s
section
variable {X:Cx} {pos:Pos}
def zL(i:Nat):TG:=λv σ H Q=>Q (σ.set i (some v)) H
theorem uC{i:Nat}{x:Str}(hN:X.N.Nodup)(hi:X.N[i]? =some x)(hx:Loc X.env.scope x)(hf:X.fn x=true∨X.env.scope.names.lookup x=some .local:=by first|exact .inl rfl|exact .inr rfl|assumption):PG X (.Name x pos) (zL i):=by
 intro pins s σ H v u Q I r h;exact wpAny_assign_Name (nu I hN hi hx r (λs' I'=>⟨_,H,I',h⟩) hf)
def I0:rZ:=λvs σ H Q=>vs= []∧Q σ H
def Fw(t:TG)(u:rZ):rZ:=λvs σ H Q=>∃v r,vs=v::r∧t v σ H λaI H'=>u r aI H' Q
theorem uD:tK X [] I0:=by
 intro pins s σ H vs us Q I r h;obtain ⟨e,h⟩:=h;subst e;cases r;exact assignInOrder_nil ⟨σ,H,I,h⟩
theorem m8{e:Expr}{es:List Expr}{t:TG}{u:rZ}(h1:PG X e t)(h2:tK X es u)
  (hs:(assignEach (e::es) X.env).map (·.2)=assign e X.env::(assignEach es X.env).map (·.2):=by rfl):tK X (e::es) (Fw t u):=by
 intro pins s σ H vs us Q I r h;obtain ⟨v,vr,e1,h⟩:=h;subst e1;cases r with
 |cons r rr=>
  rw [hs];refine assignInOrder_cons (thn (h1 pins s σ H _ _ _ I r h) λ_ s1 ⟨wQ,H1,I1,q1⟩=>?_);exact h2 pins s1 wQ H1 _ _ Q I1 rr q1
def Jb(K:PySem.W.Frag)(n:Nat)(t:rZ):TG:=λv σ H Q=>∃a xs,v= .ref a∧ed K H a xs∧xs.length=n∧t xs σ H Q
theorem xr{es:List Expr}{k:Nat}{t:rZ}{n:Nat}(hc:X.calm=true)(h:tK X es t)
  (hn:(assignEach es X.env).length=n:=by rfl) (lM:(assignEach es X.env).findIdx? (·.1)=none:=by rfl):PG X (.Tuple es k pos) (Jb X.K n t):=by
 intro pins s σ H v u Q I r hw;obtain ⟨a,xs,e1,hq,hl,hw⟩:=hw;subst e1;cases r;obtain ⟨its,rv,ht,hz⟩:=I.tuple hq;refine assign_Tuple_tuple (I.ok.hd hc) ht (by simp [hn,←hl,rv.length]) lM λh' hx=>?_
 have I1:Inv X pins σ H {s with heap:=h'}:=I.kept (t':=s.toks) λb o e=>hx b o (cn (Heap.lt_size e)) e
 exact h pins _ σ H xs _ Q I1 (by simpa using rv) hw
def Ja(to ti:TE)(t:y0):TG:=λv σ H Q=>to σ H λo H1=>ti σ H1 λi H2=>t o i v H2 λH3=>Q σ H3
theorem oS{o i:Expr}{to ti:TE}{t:y0}(ho:PE X o to)(hi:PE X i ti)(hs:Dq X t)
  (ha:∀v,assign (.Subscript o i pos) X.env v=(do
   let ov ←holding [v] (eval o X.env)
   let iv ←holding [v,ov] (eval i X.env)
   standAt pos
   holding [v,ov,iv] (setItem ov iv v)
   release [v,ov,iv] []):=by intro _;rfl):PG X (.Subscript o i pos) (Ja to ti t):=by
 intro pins s σ H v u Q I r h;rw [ha];refine wpAny_bind (wpAny_holding (thn (ho pins s σ H _ I h) λov s1 ⟨x,H1,I1,r1,q1⟩=>?_));refine wpAny_bind (wpAny_holding (thn (hi pins s1 σ H1 _ I1 q1) λiv s2 ⟨y,H2,I2,r2,q2⟩=>?_));refine wpAny_bind (wpAny_standAt (wpAny_bind (wpAny_holding (thn (hs pins s2 σ H2 x y v ov iv u _ I2 r1 r2 r q2) λ_ s3 ⟨H3,I3,q3⟩=>?_))));exact wpAny_release ⟨σ,H3,I3,q3⟩
def Eo(te:TE)(g:TG):TS:=λD σ H=>te σ H λx H1=>g x σ H1 D.nx
theorem tj{tg e:Expr}{te:TE}{g:TG}(he:PE X e te)(hg:PG X tg g)(hs:swapsWithSole [tg] e pos.line X.env=pure false:=by rfl)(hw:swappedStores [tg] e X.env=pure none:=by rfl)
  (h1:(assignEach [tg] X.env).map (·.2)= [assign tg X.env]:=by rfl):PS X (.Assign [tg] e pos) (Eo te g):=by
 intro pins s σ H D I h;refine wpAny_Assign_stores (thn (he pins s σ H _ I h) λv s1 ⟨x,H1,I1,r1,q1⟩=>?_) hs hw;rw [h1];exact thn (hg pins s1 σ H1 x v _ I1 r1 q1) λ_ s2 q=>q
theorem fk{i:Nat}{x:Str}{e:Expr}{te:TE}{pos':Pos}(hN:X.N.Nodup)(hi:X.N[i]? =some x)(hx:Loc X.env.scope x)(he:PE X e te)(hs:swapsWith e (some (.Name x pos')) pos.line X.env=pure false:=by rfl)(hf:X.fn x=true∨X.env.scope.names.lookup x=some .local:=by first|exact .inl rfl|exact .inr rfl|assumption):
  PS X (.Assign [.Name x pos'] e pos) (Eo te (zL i)):=by
 intro pins s σ H D I h;refine wpAny_Assign_Name (thn (he pins s σ H _ I h) λv s1 ⟨y,H1,I1,r1,q1⟩=>?_) hs;exact nu I1 hN hi hx r1 (λs2 I2=>⟨_,H1,I2,q1⟩) hf
end
section
variable {X:Cx} {pos:Pos}
def De(c:TT)(tb:TS):TS:=λD σ H=>∃W:Nat→St→Hp→Prop,(∃m,W m σ H)∧∀m σ H,W m σ H→
 c σ H λb H1=>if b=true then ∃N:St→Hp→Prop,(∀aI H',N aI H'→∃m',m'<m∧W m' aI H')∧tb {D with nx:=N,ct:=N,bk:=D.nx} σ H1 else D.nx σ H1
theorem yG{c:Expr}{body:List Stmt}{tc:TT}{tb:TS}(hp:PassesOwn (model X.prog X.w) X.A X.env X.xe)(hc:PT X c tc)(hb:jt X body tb):PS X (.While c body [] pos) (De tc tb):=by
 intro pins s σ H D I h;obtain ⟨W,⟨m0,w0⟩,turn⟩:=h;refine wpAny_While (codeAny_whileLoop (λn s'=>∃aI H',Inv X pins aI H' s'∧W n aI H') ?_ m0 ⟨σ,H,I,w0⟩);rintro n s1 ⟨wQ,H1,I1,w1⟩;refine wpAny_passesOwn hp (thn (hc pins s1 wQ H1 _ I1 (turn n wQ H1 w1)) λb s2 ⟨H2,I2,q2⟩=>?_);cases b with
 |true=>
  obtain ⟨N,hN,q2⟩:=q2;rw [if_pos rfl];refine wpAny_passesOwn hp (thn (hb pins s2 wQ H2 _ I2 q2) λf s3 q3=>?_);cases f with
  |next=>
   obtain ⟨oH,H3,I3,n3⟩:=q3;obtain ⟨m',hm,w3⟩:=hN oH H3 n3;exact ⟨m',hm,oH,H3,I3,w3⟩
  |cont=>
   obtain ⟨oH,H3,I3,n3⟩:=q3;obtain ⟨m',hm,w3⟩:=hN oH H3 n3;exact ⟨m',hm,oH,H3,I3,w3⟩
  |brk=>exact q3
  |ret v=>exact q3
 |false=>
  rw [if_neg dP];exact wpAny_execs_nil ⟨wQ,H2,I2,q2⟩
end
structure It where
 go:Nat→Hp→Prop
 yld:Nat→Hp→V→Hp→Prop
 stop:Nat→Hp→Prop
def fR(X:Cx)(pins:List (Addr×Obj))(H:Hp)(b:Addr):Prop:=
 H b=none∧b≠X.env.locals∧b∉X.fs∧(b∈X.ex∨X.s₀.heap.objs.size≤b)∧(∀x c,X.env.cells.lookup x=some c→c≠b)∧∀p∈X.pn++pins,p.1≠b
theorem Inv.xb{X:Cx}{pins:List (Addr×Obj)}{σ:St}{H H':Hp}{s:Shared}{b:Addr}(I:Inv X pins σ H s)(hb:s.heap.objs.size≤b)(hn:H' b=none):fR X pins H' b:=by
 refine ⟨hn,Nat.ne_of_gt (eS I.lt hb),I.Ee hb, .inr (jU I.sz hb),λx c e z=>?_,λp hp z=>?_⟩
 ·obtain ⟨v,q⟩:=I.cell x c e
  exact absurd (eS q.lt (by rw [z];exact hb)) (jk _)
 ·exact absurd (eS (Heap.lt_size (I.pin p hp).1) (by rw [z];exact hb)) (jk _)
structure Turn (P:Program) (w:World) (K:PySem.W.Frag) (tg:Expr) (J:It) (fp:List Addr) (it:Addr) (tn:Nat→Heap→Prop):Prop where
 mem:it∈fp
 obj:∀i h,tn i h→∀b∈fp,∃o,h.get? b=some o∧∀v,o.data≠ .cell v
 keep:∀i h h',tn i h→(∀b∈fp,∀o,h.get? b=some o→h'.get? b=some o)→tn i h'
 item:∀(X:Cx),X.prog=P→X.w=w→X.K=K→X.calm=true→∀(i:Nat)(pins:List (Addr×Obj))(s:Shared)(σ:St)(H:Hp)(E:Value→Shared→Prop),Inv X pins σ H s→(∀b∈fp,fR X pins H b)→tn i s.heap→J.go i H→
  wpAny (model P w) X.A (pyNext (.ref it)) (λr s1=>∃u,r=some u∧
   wpAny (model P w) X.A (letOwnedTupleGo tg (.ref it) u) (λ_ s2=>∃x H',Inv X pins σ H' s2∧RelV x u∧J.yld i H x H'∧tn (i+1) s2.heap∧∀b∈fp,H' b=none) E s1) E s
 done:∀(X:Cx),X.prog=P→X.w=w→X.K=K→X.calm=true→∀(i:Nat)(pins:List (Addr×Obj))(s:Shared)(σ:St)(H:Hp)(E:Value→Shared→Prop),Inv X pins σ H s→(∀b∈fp,fR X pins H b)→tn i s.heap→J.stop i H→
  wpAny (model P w) X.A (pyNext (.ref it)) (λr s1=>r=none∧Inv X pins σ H s1) E s
 self:∀(A:Around)(i:Nat)(s:Shared)(Q:Value→Shared→Prop)(E:Value→Shared→Prop),tn i s.heap→Q (.ref it) s→wpAny (model P w) A (pyIter (.ref it)) Q E s
abbrev TI:=St→Hp→(It→Hp→Prop)→Prop
def GW(X:Cx)(pins:List (Addr×Obj))(σ:St)(tg:Expr)(R:It→Hp→Prop)(B9:Value)(s2:Shared):Prop:=
 ∃(it:Addr)(fp:List Addr)(tn:Nat→Heap→Prop)(J:It)(H':Hp),B9= .ref it∧Inv X pins σ H' s2∧Turn X.prog X.w X.K tg J fp it tn∧tn 0 s2.heap∧(∀b∈fp,fR X pins H' b)∧R J H'
def PI(X:Cx)(tg iter:Expr)(wi:TI):Prop:=
 ∀(pins:List (Addr×Obj))(s:Shared)(σ:St)(H:Hp)(R:It→Hp→Prop),Inv X pins σ H s→wi σ H R→
  wpAny (model X.prog X.w) X.A (eval iter X.env) (λv s1=>wpAny (model X.prog X.w) X.A (pyIter v) (GW X pins σ tg R) X.xe s1) X.xe s
theorem vA{M:Model}{A:Around}{E:Value→Shared→Prop}{s:Shared}{tg:Expr}{it:Addr}{u:Value}{o:Obj}{n:String}{vs:Array Value}{Q:Unit→Shared→Prop}(ho:s.heap.get? it=some o)(hc:o.cls= .type n)(hd:o.data= .fields vs)
  (hn: ["enumerate","zip","dict_itemiterator","dict_reverseitemiterator","odict_iterator","itertools.zip_longest","itertools.pairwise"].contains n=false) (hQ:Q () s):wpAny M A (letOwnedTupleGo tg (.ref it) u) Q E s:=by
 unfold letOwnedTupleGo
 cases tg<;>first
  |exact wpAny_pure hQ
  | (cases u<;>first
    |exact wpAny_pure hQ
    | (refine wpAny_bind (wpAny_load ho ?_)
       rw [hc,hd];show wpAny M A (if (["enumerate","zip","dict_itemiterator","dict_reverseitemiterator","odict_iterator","itertools.zip_longest","itertools.pairwise"].contains n&&vs[0]? ==some (rawInt _))=true then _ else _) Q E s;rw [if_neg (by intro h;rw [hn,Bool.false_and] at h;cases h)]
       exact wpAny_pure hQ))
def Ex(K:PySem.W.Frag)(a:Addr):It:=
 ⟨λi H=>∃xs x,bE K H a xs∧xs[i]? =some x,λi H x H'=>H'=H∧∀xs,bE K H a xs→xs[i]? =some x,λi H=>∃xs,bE K H a xs∧xs.length≤i⟩
def yW(lo:Int)(n:Nat):It:=⟨λi _=>i<n,λi H x H'=>H'=H∧x= .int (lo+i),λi _=>n≤i⟩
theorem wN{P:Program}{w:World}{K:PySem.W.Frag}{tg:Expr}(a it:Addr):Turn P w K tg (Ex K a) [it] it (λi h=>h.IsListIter it a i) where
 mem:=by simp
 obj:=λi h st b hb=>by
  have e:b=it:=by simpa using hb
  subst e;obtain ⟨o,e,c,d⟩:=st;exact ⟨o,e,λv z=>by rw [d] at z;cases z⟩
 keep:=λi h h' st k=>st.at λo e=>k it (by simp) o e
 item:=by
  intro X hP hw hK hc i pins s σ H E I hf st hg;subst hP hw hK;obtain ⟨xs,x,hq,hx⟩:=hg;obtain ⟨its,rv,p,hz⟩:=I.list hq;obtain ⟨u,hu,ru⟩:=rv.get hx;obtain ⟨f0,f1,f2,f3,f4,f5⟩:=hf it (by simp)
  refine wpAny_pyNext_list_item st p.isList (x:=u) (by simpa using hu) λh' tE sb=>?_
  have I1:Inv X pins σ H {s with heap:=h'}:=I.turned (t':=s.toks) (λb o hb e=>(sb.2 b hb).trans e) f0 f1 f3 f4 f5
  obtain ⟨o,e,c,d⟩:=id tE;exact ⟨u,rfl,vA (s:={s with heap:=h'}) e c d (by decide) ⟨x,H,I1,ru,⟨rfl,λys hy=>by rw [I.mT hy hq];exact hx⟩,tE,λb hb=>(hf b hb).1⟩⟩
 done:=by
  intro X hP hw hK hc i pins s σ H E I hf st hg;subst hP hw hK;obtain ⟨xs,hq,hx⟩:=hg;obtain ⟨its,rv,p,hz⟩:=I.list hq;obtain ⟨f0,f1,f2,f3,f4,f5⟩:=hf it (by simp)
  have hl:=rv.length;exact wpAny_pyNext_list_end (I.ok.hd hc) st p.isList (by simp;omega) λh' eb=>⟨rfl,I.turned (t':=s.toks) (λb o hb e=>eb b o hb e) f0 f1 f3 f4 f5⟩
 self:=λ_ _ _ _ _ st h=>wpAny_pyIter_listiter st h
theorem uS{P:Program}{w:World}{K:PySem.W.Frag}{tg:Expr}(it:Addr)(lo:Int)(n:Nat):Turn P w K tg (yW lo n) [it] it (λi h=>IsRangeIter h it (lo+(i:Nat)*1) ((n:Int)-(i:Nat)) 1) where
 mem:=by simp
 obj:=λi h st b hb=>by
  have e:b=it:=by simpa using hb
  subst e
  exact ⟨_,st,λv z=>by
   have z':Data.fields _=Data.cell v:=z;cases z'⟩
 keep:=λi h h' st k=>k it (by simp) _ st
 item:=by
  intro X hP hw hK hc i pins s σ H E I hf st hg;subst hP hw hK;obtain ⟨f0,f1,f2,f3,f4,f5⟩:=hf it (by simp)
  have W:=Walks.range (prog:=X.prog) (w:=X.w) (I.ok.hd hc) it lo 1 n;refine W.item i s _ _ hg st λv h' tk hv tE kk=>?_;obtain ⟨t,rfl⟩:=hv;have I1:Inv X pins σ H {s with heap:=h',toks:=tk}:=I.turned (λb o hb e=>kk b o (by simpa using hb) e) f0 f1 f3 f4 f5
  refine ⟨_,rfl,vA (s:={s with heap:=h',toks:=tk}) (n:="range_iterator") tE rfl rfl (by decide) ⟨.int (lo+i),H,I1,⟨t,?_⟩,⟨rfl,rfl⟩,tE,λb hb=>(hf b hb).1⟩⟩
  rw [Int.mul_one]
 done:=by
  intro X hP hw hK hc i pins s σ H E I hf st hg;subst hP hw hK;obtain ⟨f0,f1,f2,f3,f4,f5⟩:=hf it (by simp)
  exact wpAny_pyNext_range_end (I.ok.hd hc) st (by have:n≤i:=hg;omega) λh' eb=>⟨rfl,I.turned (t':=s.toks) (λb o hb e=>eb b o hb e) f0 f1 f3 f4 f5⟩
 self:=λ_ _ _ _ _ st h=>wpAny_pyIter_rangeiter st h
section
variable {X:Cx} {tg:Expr}
def F1(K:PySem.W.Frag)(tl:TE):TI:=λσ H R=>tl σ H λx H1=>∃a,x= .ref a∧(∃xs,bE K H1 a xs)∧R (Ex K a) H1
theorem AL{l:Expr}{tl:TE}(hl:PE X l tl):PI X tg l (F1 X.K tl):=by
 intro pins s σ H R I h;refine thn (hl pins s σ H _ I h) λv s1 ⟨x,H1,I1,r1,q1⟩=>?_;obtain ⟨a,e,⟨xs,hq⟩,q⟩:=q1;subst e;cases r1;obtain ⟨its,rv,p,hz⟩:=I1.list hq;refine wpAny_pyIter_list p.isList ?_;refine ⟨s1.heap.objs.size,[s1.heap.objs.size],_,_,H1,rfl,I1.kept (t':=s1.toks) λb o e=>Heap.get?_push_of_some _ e,wN a _,⟨_,Heap.get?_push_size _ rfl,rfl,rfl⟩,λb hb=>?_,q⟩;have e:b=s1.heap.objs.size:=by simpa using hb
 subst e;exact I1.xb (bC _) (I1.hok.fresh (bC _))
theorem rM{pins:List (Addr×Obj)}{σ:St}{H:Hp}{s:Shared}{R:It→Hp→Prop}{E:Value→Shared→Prop}{lo hi:Int}{t u v:Tok}{tk:Nat}(I:Inv X pins σ H s)(h1: -(2^62)≤lo)(h2:lo<2^62)(h3: -(2^62)≤hi)(h4:hi<2^62)
  (q:R (yW lo (hi-lo).toNat) H):wpAny (model X.prog X.w) X.A (pyIter (.ref s.heap.objs.size)) (GW X pins σ tg R) E {s with heap:=s.heap.push {cls:= .type "range",data:= .fields #[.int lo t, .int hi u, .int 1 v]},toks:=tk}:=by
 refine wpAny_pyIter_range (IsRange.new ..) (small_one h1 h2 h3 h4) ?_;have I1:Inv X pins σ H {s with heap:=s.heap.push {cls:= .type "range",data:= .fields #[.int lo t, .int hi u, .int 1 v]},toks:=tk}:=I.kept λb o e=>Heap.get?_push_of_some _ e
 refine ⟨(s.heap.push {cls:= .type "range",data:= .fields #[.int lo t, .int hi u, .int 1 v]}).objs.size,[(s.heap.push {cls:= .type "range",data:= .fields #[.int lo t, .int hi u, .int 1 v]}).objs.size],_,_,H,rfl,
  I1.kept (t':=tk) λb o e=>Heap.get?_push_of_some _ e,uS _ lo (hi-lo).toNat,?_,λb hb=>?_,q⟩
 ·have e1:lo+((0:Nat):Int)*1=lo:=by simp
  have e2:(((hi-lo).toNat:Nat):Int)-((0:Nat):Int)=Builtin.Range.rangeSize lo hi 1:=by rw [rangeSize_one];split<;>omega
  show IsRangeIter _ _ (lo+((0:Nat):Int)*1) ((((hi-lo).toNat:Nat):Int)-((0:Nat):Int)) 1;rw [e1,e2];exact Heap.get?_push_size _ rfl
 ·have e:b=(s.heap.push {cls:= .type "range",data:= .fields #[.int lo t, .int hi u, .int 1 v]}).objs.size:=by simpa using hb
  subst e;exact I1.xb (bC _) (I1.hok.fresh (bC _))
def F2(ta:TA):TI:=λσ H R=>ta σ H λvs H1=>∃j:Int,vs= [.int j]∧-(2^62)≤j∧j<2^62∧R (yW 0 j.toNat) H1
def F3(ta:TA):TI:=λσ H R=>ta σ H λvs H1=>∃i j:Int,vs= [.int i, .int j]∧(-(2^62)≤i∧i<2^62∧-(2^62)≤j∧j<2^62)∧R (yW i (j-i).toNat) H1
theorem qm{a:Expr}{ta:TA}{p pos:Pos}(hg:Gl X "range")(hm:X.mg "range"=none)(ha:PA X [a] ta)(hs:starEach [a] X.env= [(false,eval a X.env)]:=by rfl):PI X tg (.Call (.Name "range" p) [a] [] pos) (F2 ta):=by
 intro pins s σ H R I h;refine Call_ (fh I hg hm boot_range (PyProof.Rows.callWith_type1 (thn (ha pos pins s σ H _ I h) λus s1 ⟨vs,H1,I1,r1,q1⟩=>?_) hs rfl));obtain ⟨j,e,q1,q2,q⟩:=q1;subst e;cases r1 with
 |cons r rr=>
  cases rr;obtain ⟨t,rfl⟩:=r;exact call_range_1 (rM I1 (by omega) (by omega) q1 q2 (by simpa using q))
theorem wu{a b:Expr}{ta:TA}{p pos:Pos}(hg:Gl X "range")(hm:X.mg "range"=none)(ha:PA X [a,b] ta)(hs:starEach [a,b] X.env= [(false,eval a X.env),(false,eval b X.env)]:=by rfl)(iX:starEach [b] X.env= [(false,eval b X.env)]:=by rfl):
  PI X tg (.Call (.Name "range" p) [a,b] [] pos) (F3 ta):=by
 intro pins s σ H R I h;refine Call_ (fh I hg hm boot_range (PyProof.Rows.callWith_type1 (thn (ha pos pins s σ H _ I h) λus s1 ⟨vs,H1,I1,r1,q1⟩=>?_) (by rw [hs,iX]) (by rw [iX];rfl)))
 obtain ⟨i,j,e,⟨q1,q2,q3,q4⟩,q⟩:=q1;subst e;cases r1 with
 |cons r rr=>
  cases rr with
  |cons r' rr=>
   cases rr;obtain ⟨t,rfl⟩:=r;obtain ⟨t',rfl⟩:=r';exact call_range_2 (rM I1 q1 q2 q3 q4 q)
def Mc(wi:TI)(g:TG)(tb:TS):TS:=λD σ H=>wi σ H λJ H1=>∃W:Nat→Nat→St→Hp→Prop,(∃m,W 0 m σ H1)∧∀i m σ H,W i m σ H→
 (J.stop i H∧D.nx σ H)∨(J.go i H∧∃N:St→Hp→Prop,(∀aI H',N aI H'→∃m',m'<m∧W (i+1) m' aI H')∧∀x H',J.yld i H x H'→g x σ H' λgS H2=>tb {D with nx:=N,ct:=N,bk:=D.nx} gS H2)
def lX(fp:List Addr)(h:Heap):List (Addr×Obj):=fp.filterMap λb=>(h.get? b).map λo=>(b,o)
theorem hU{fp:List Addr}{h:Heap}{b:Addr}{o:Obj}(hb:b∈fp)(e:h.get? b=some o):(b,o)∈lX fp h:=List.mem_filterMap.mpr ⟨b,hb,by rw [e];rfl⟩
theorem wj{fp:List Addr}{h:Heap}{p:Addr×Obj}(hp:p∈lX fp h):p.1∈fp∧h.get? p.1=some p.2:=by
 obtain ⟨b,hb,e⟩:=List.mem_filterMap.mp hp;cases q:h.get? b with
 |none=>rw [q] at e;cases e
 |some o=>
  rw [q] at e;have e':(b,o)=p:=Option.some.inj e;subst e';exact ⟨hb,q⟩
theorem Inv.pinned{pins:List (Addr×Obj)}{σ:St}{H:Hp}{s:Shared}{fp:List Addr}(I:Inv X pins σ H s)(hf:∀b∈fp,fR X pins H b)(ho:∀b∈fp,∃o,s.heap.get? b=some o∧∀v,o.data≠ .cell v):Inv X (pins++lX fp s.heap) σ H s:=
 I.lY λp hp=>(cu.mp hp).elim (λz=>I.pin p (dX _ z)) λz=>by
  obtain ⟨hb,e⟩:=wj z;obtain ⟨f0,f1,f2,_⟩:=hf p.1 hb;obtain ⟨o,e',d⟩:=ho p.1 hb;rw [e] at e';cases e';exact ⟨e,f0,f1,f2,d⟩
theorem Inv.ke{pins pl:List (Addr×Obj)}{σ:St}{H:Hp}{s:Shared}(I:Inv X (pins++pl) σ H s):Inv X pins σ H s:=I.lY λp hp=>I.pin p (dX _ (fV _ hp))
theorem xt{iter:Expr}{body:List Stmt}{wi:TI}{g:TG}{tb:TS}{pos:Pos}(hp:PassesOwn (model X.prog X.w) X.A X.env X.xe)(hc:X.calm=true)(hi:PI X tg iter wi)(hg:PG X tg g)(hb:jt X body tb)
  (hs:∀x,foldedSetIterable iter X.env x=pure x:=by intro _;rfl):PS X (.For tg iter body [] pos) (Mc wi g tb):=by
 intro pins s σ H D I h;refine wpAny_For (thn (hi pins s σ H _ I h) λv s1 h1=>thn h1 λB9 s2 h2=>?_) hs;obtain ⟨it,fp,tn,J,H2,e,I2,T,qS,f2,W,⟨m0,w0⟩,turn⟩:=h2;subst e;have stat:∀{H':Hp},(∀b∈fp,H' b=none)→∀b∈fp,fR X pins H' b:=λhn b hb=>⟨hn b hb,(f2 b hb).2⟩;refine codeAny_forLoop_any (λn s'=>∃i aI H',Inv X pins aI H' s'∧tn i s'.heap∧(∀b∈fp,H' b=none)∧W i n aI H') ?_ m0 ⟨0,σ,H2,I2,qS,λb hb=>(f2 b hb).1,w0⟩;rintro n s3 ⟨i,oH,H3,I3,Bh,IY,w3⟩
 rcases turn i n oH H3 w3 with ⟨stop,qn⟩ | ⟨go,N,hN,step⟩
 ·refine wpAny_passesOwn hp (thn (T.done X rfl rfl rfl hc i pins s3 oH H3 X.xe I3 (stat IY) Bh stop) λr s4 ⟨hr,I4⟩=>?_)
  subst hr;exact wpAny_execs_nil ⟨oH,H3,I4,qn⟩
 ·refine wpAny_passesOwn hp (thn (T.item X rfl rfl rfl hc i pins s3 oH H3 X.xe I3 (stat IY) Bh go) λr s4 ⟨u,hr,h4⟩=>?_)
  subst hr;refine wpAny_passesOwn hp (thn h4 λ_ s5 ⟨x,H5,I5,r5,y5,yO,BW⟩=>?_);have Eu:=I5.pinned (stat BW) (T.obj _ _ yO);refine wpAny_passesOwn hp (thn (hg _ s5 oH H5 x u _ Eu r5 (step x H5 y5)) λ_ s6 ⟨Sk,H6,I6,q6⟩=>?_);refine wpAny_passesOwn hp (thn (hb _ s6 Sk H6 _ I6 q6) λf s7 q7=>?_)
  have again:∀{qF:St}{H7:Hp},Inv X (pins++lX fp s5.heap) qF H7 s7→N qF H7→∃m,m<n∧∃i aI H',Inv X pins aI H' s7∧tn i s7.heap∧(∀b∈fp,H' b=none)∧W i m aI H':=λ {qF H7} I7 n7=>by
   obtain ⟨m',hm,w7⟩:=hN qF H7 n7;refine ⟨m',hm,i+1,qF,H7,I7.ke,T.keep _ _ _ yO λb hb o e=>(I7.pin (b,o) (dX _ (dX _ (hU hb e)))).1,λb hb=>?_,w7⟩;obtain ⟨o,e,d⟩:=T.obj _ _ yO b hb;exact (I7.pin (b,o) (dX _ (dX _ (hU hb e)))).2.1
  cases f with
  |next=>obtain ⟨qF,H7,I7,n7⟩:=q7;exact again I7 n7
  |cont=>obtain ⟨qF,H7,I7,n7⟩:=q7;exact again I7 n7
  |brk=>obtain ⟨qF,H7,I7,q7⟩:=q7;exact ⟨qF,H7,I7.ke,q7⟩
  |ret v=>obtain ⟨x7,qF,H7,I7,r7,q7⟩:=q7;exact ⟨x7,qF,H7,I7.ke,r7,q7⟩
end
abbrev R2:=V→V→Hp→VK→Prop
def OpR(X:Cx)(f:Value→Value→Sem Value)(r:R2):Prop:=
 ∀(pins:List (Addr×Obj))(s:Shared)(σ:St)(H:Hp)(x y:V)(v u:Value)(Q:VK),Inv X pins σ H s→RelV x v→RelV y u→r x y H Q→
  wpAny (model X.prog X.w) X.A (f v u) (EP X pins σ Q) X.xe s
def dJ(X:Cx)(f:Value)(r:List V→Hp→VK→Prop):Prop:=
 ∀(pins:List (Addr×Obj))(s:Shared)(σ:St)(H:Hp)(xs:List V)(us:List Value)(Q:VK),Inv X pins σ H s→Vals xs us→r xs H Q→
  wpAny (model X.prog X.w) X.A (call f us) (EP X pins σ Q) X.xe s
def GX(X:Cx)(r:V→Hp→(Bool→Hp→Prop)→Prop):Prop:=
 ∀(pins:List (Addr×Obj))(s:Shared)(σ:St)(H:Hp)(x:V)(v:Value)(Q:Bool→Hp→Prop),Inv X pins σ H s→RelV x v→r x H Q→
  wpAny (model X.prog X.w) X.A (truthy v) (TP X pins σ Q) X.xe s
def Bo(r:R2)(ta tb:TE):TE:=λσ H Q=>ta σ H λx H1=>tb σ H1 λy H2=>r x y H2 Q
def rI(C:Int→Int→Prop)(g:Int→Int→V):R2:=λx y H Q=>∃i j,x= .int i∧y= .int j∧C i j∧Q (g i j) H
def tu(g:Int→Int→V):R2:=λx y H Q=>∃i j,x= .int i∧y= .int j∧Q (g i j) H
section
variable {X:Cx} {a b c:Expr} {ta tb tc:TE} {pos:Pos}
theorem y8(ha:PE X a ta)(hb:PE X b tb){pins:List (Addr×Obj)}{s:Shared}{σ:St}{H:Hp}{R:V→V→Hp→Prop}(I:Inv X pins σ H s)
  (h:ta σ H λx H1=>tb σ H1 λy H2=>R x y H2) {Q:Value→Shared→Prop} {f:Value→Value→Sem Value}
  (hf:∀v u s2 x y H2,Inv X pins σ H2 s2→RelV x v→RelV y u→R x y H2→wpAny (model X.prog X.w) X.A (f v u) Q X.xe s2):
  wpAny (model X.prog X.w) X.A (eval a X.env) (λv s₁=>wpAny (model X.prog X.w) X.A (eval b X.env) (λu xC=>wpAny (model X.prog X.w) X.A (f v u) Q X.xe xC) X.xe s₁) X.xe s:=by
 refine thn (ha pins s σ H _ I h) λv s1 ⟨x,H1,I1,r1,q1⟩=>?_;refine thn (hb pins s1 σ H1 _ I1 q1) λu s2 ⟨y,H2,I2,r2,q2⟩=>?_;exact hf v u s2 x y H2 I2 r1 r2 q2
theorem sX{op:Operator}{r:R2}(ho:OpR X (binaryOp op) r)(ha:PE X a ta)(hb:PE X b tb):PE X (.BinOp a op b pos) (Bo r ta tb):=by
 intro pins s σ H Q I h;exact wpAny_BinOp (y8 ha hb I h λv u s2 x y H2 I2 rx ry q=>ho pins s2 σ H2 x y v u Q I2 rx ry q)
theorem Ax{f:Value→Value→Sem Value}{C:Int→Int→Prop}{g:Int→Int→Int}
  (rule:∀(i j:Int)(t u:Tok)(s:Shared)(Q:Value→Shared→Prop)(E:Value→Shared→Prop),C i j→Q (.int (g i j) s.toks) {s with toks:=s.toks+1}→wpAny (model X.prog X.w) X.A (f (.int i t) (.int j u)) Q E s):
  OpR X f (rI C λi j=> .int (g i j)):=by
 intro pins s σ H x y v u Q I rx ry h;obtain ⟨i,j,rfl,rfl,hc,q⟩:=h;obtain ⟨t,rfl⟩:=rx;obtain ⟨t',rfl⟩:=ry;exact rule i j t t' s _ _ hc ⟨.int (g i j),H,I.tok _,⟨_,rfl⟩,q⟩
theorem Ek{f:Value→Value→Sem Value}{g:Int→Int→Int}
  (rule:∀(i j:Int)(t u:Tok)(s:Shared)(Q:Value→Shared→Prop)(E:Value→Shared→Prop),Q (.int (g i j) s.toks) {s with toks:=s.toks+1}→wpAny (model X.prog X.w) X.A (f (.int i t) (.int j u)) Q E s):
  OpR X f (tu λi j=> .int (g i j)):=by
 intro pins s σ H x y v u Q I rx ry h;obtain ⟨i,j,rfl,rfl,q⟩:=h;obtain ⟨t,rfl⟩:=rx;obtain ⟨t',rfl⟩:=ry;exact rule i j t t' s _ _ ⟨.int (g i j),H,I.tok _,⟨_,rfl⟩,q⟩
theorem Aw{f:Value→Value→Sem Value}{g:Int→Int→Bool}
  (rule:∀(i j:Int)(t u:Tok)(s:Shared)(Q:Value→Shared→Prop)(E:Value→Shared→Prop),Q (.bool (g i j)) s→wpAny (model X.prog X.w) X.A (f (.int i t) (.int j u)) Q E s):
  OpR X f (tu λi j=> .bl (g i j)):=by
 intro pins s σ H x y v u Q I rx ry h;obtain ⟨i,j,rfl,rfl,q⟩:=h;obtain ⟨t,rfl⟩:=rx;obtain ⟨t',rfl⟩:=ry;exact rule i j t t' s _ _ ⟨.bl (g i j),H,I,rfl,q⟩
def Dm(i j:Int):Prop:=0<j∧j<1073741824
def wU(i j:Int):Prop:=0≤j∧j≤1000000∧i.natAbs<2^64
def wR(i j:Int):Prop:=(-(2^64)<i∧i<2^64)∨(-(2^64)<j∧j<2^64)
theorem wR.ok{i j:Int}(h:wR i j):IntMulOk i j:=by
 rcases h with ⟨h1,h2⟩ | ⟨h1,h2⟩
 ·exact .of_left (intBits_le_64 h1 h2)
 ·exact .of_right (intBits_le_64 h1 h2)
theorem Cu:OpR X (binaryOp .Add) (tu λi j=> .int (i+j)):=Ek λ_ _ _ _ _ _ _ q=>add_int q
theorem CD:OpR X (binaryOp .Sub) (tu λi j=> .int (i-j)):=Ek λ_ _ _ _ _ _ _ q=>sub_int q
theorem Cz:OpR X (binaryOp .Mult) (rI wR λi j=> .int (i*j)):=Ax λ_ _ _ _ _ _ _ hc q=>mul_int q hc.ok
theorem Az:OpR X (binaryOp .FloorDiv) (rI Dm λi j=> .int (i / j)):=Ax λi j _ _ _ _ _ hc q=>by
 have h1:(0:Int)<j:=hc.1;have h2:j<1073741824:=hc.2;exact floordiv_int (by omega) (by rw [Int.fdiv_eq_ediv_of_nonneg i (by omega)];exact q) (.inl (PyProof.noPylong_small (by omega)))
theorem Cy:OpR X (binaryOp .Mod) (rI (λ_ j=>0<j) λi j=> .int (i%j)):=Ax λi j _ _ _ _ _ hc q=>by
 have h1:(0:Int)<j:=hc;exact mod_int' (by omega) (by rw [Int.fmod_eq_emod_of_nonneg i (by omega)];exact q)
theorem CB:OpR X (binaryOp .Pow) (rI wU λi j=> .int (i^j.toNat)):=Ax λ_ _ _ _ _ _ _ hc q=>pow_int_small hc.1 hc.2.1 hc.2.2 q
theorem CC:OpR X (binaryOp .LShift) (rI wU λi j=> .int (i*2^j.toNat)):=Ax λ_ _ _ _ _ _ _ hc q=>lshift_int_small hc.1 hc.2.1 hc.2.2 q
end
section
variable {X:Cx} {a b c:Expr} {ta tb tc:TE} {pos:Pos}
theorem xa{pins:List (Addr×Obj)}{σ:St}{H:Hp}{s:Shared}{Q:VK}{k k':Bool}(I:Inv X pins σ H s)(q:Q (.bl k) H)(e:k=k'):EP X pins σ Q (.bool k') s:=by
 subst e;exact ⟨.bl k,H,I,rfl,q⟩
theorem Gg:OpR X (compareOp .Lt) (tu λi j=> .bl (decide (i<j))):=Aw λ_ _ _ _ _ _ _ q=>lt_int q
theorem Ge:OpR X (compareOp .LtE) (tu λi j=> .bl (decide (i≤j))):=Aw λ_ _ _ _ _ _ _ q=>le_int q
theorem Gd:OpR X (compareOp .Gt) (tu λi j=> .bl (decide (j<i))):=Aw λ_ _ _ _ _ _ _ q=>gt_int q
theorem Cw:OpR X (compareOp .Is) (λx y H Q=>y= .aT∧Q (.bl (decide (x= .aT))) H):=by
 intro pins s σ H x y v u Q I rx ry h;obtain ⟨rfl,q⟩:=h;cases ry;refine is_none_gen (xa I q ?_)
 cases x<;>first
  | (cases rx;rfl)
  | (obtain ⟨t,rfl⟩:=rx;rfl)
theorem AA:OpR X (compareOp .IsNot) (λx y H Q=>y= .aT∧Q (.bl (!decide (x= .aT))) H):=by
 intro pins s σ H x y v u Q I rx ry h;obtain ⟨rfl,q⟩:=h;cases ry;refine isnot_none_gen (xa I q ?_)
 cases x<;>first
  | (cases rx;rfl)
  | (obtain ⟨t,rfl⟩:=rx;rfl)
theorem OpR.or{f:Value→Value→Sem Value}{r r':R2}(h:OpR X f r)(h':OpR X f r'):OpR X f (λx y H Q=>r x y H Q∨r' x y H Q):=by
 intro pins s σ H x y v u Q I rx ry q
 rcases q with q|q
 ·exact h pins s σ H x y v u Q I rx ry q
 ·exact h' pins s σ H x y v u Q I rx ry q
theorem aN(b:Expr){op:CmpOp}(h:op≠ .In:=by decide)(h2:op≠ .NotIn:=by decide):behindInMarks op b=false:=by
 have e1:(op==CmpOp.In)=false:=by cases op<;>first|rfl|exact absurd rfl h
 have e2:(op==CmpOp.NotIn)=false:=by cases op<;>first|rfl|exact absurd rfl h2
 cases b<;>simp [behindInMarks,e1,e2]
theorem AD{op:CmpOp}{r:R2}(ho:OpR X (compareOp op) r)(ha:PE X a ta)(hb:PE X b tb)(hm:behindInMarks op b=false):PE X (.Compare a [op] [b] pos) (Bo r ta tb):=by
 intro pins s σ H Q I h;exact wpAny_Compare1 (y8 ha hb I h λv u s2 x y H2 I2 rx ry q=>ho pins s2 σ H2 x y v u Q I2 rx ry q) hm
def wK(t:TE):TT:=λσ H Q=>t σ H λx H'=>∃k,x= .bl k∧Q k H'
theorem AS{op:CmpOp}{r:R2}(ho:OpR X (compareOp op) r)(ha:PE X a ta)(hb:PE X b tb)(hm:behindInMarks op b=false):PT X (.Compare a [op] [b] pos) (wK (Bo r ta tb)):=by
 intro pins s σ H Q I h
 refine wpAny_isTrue_Compare1 (thn (ha pins s σ H _ I h) λv s1 ⟨x,H1,I1,r1,q1⟩=>thn (hb pins s1 σ H1 _ I1 q1) λu s2 ⟨y,H2,I2,r2,q2⟩=>
  thn (ho pins s2 σ H2 x y v u _ I2 r1 r2 q2) λc s3 ⟨z,H3,I3,r3,k,e,q3⟩=>?_) hm
 subst e;cases r3;exact wpAny_truthy_bool ⟨H3,I3,q3⟩
def tH(r r':R2)(ta tb tc:TE):TE:=λσ H Q=>ta σ H λx H1=>tb σ H1 λy H2=>r x y H2 λz H3=>∃k,z= .bl k∧
 (if k=true then tc σ H3 λw' H4=>r' y w' H4 Q else Q (.bl false) H3)
theorem yA{op kT:CmpOp}{r r':R2}(ho:OpR X (compareOp op) r)(ic:OpR X (compareOp kT) r')(ha:PE X a ta)(hb:PE X b tb)(hc:PE X c tc)
  (hm:lastMarks [op,kT] [b,c]=false:=by with_unfolding_all rfl):PE X (.Compare a [op,kT] [b,c] pos) (tH r r' ta tb tc):=by
 intro pins s σ H Q I h
 refine Compare_chain (thn (ha pins s σ H _ I h) λv s1 ⟨x,H1,I1,r1,q1⟩=>chain_link (thn (hb pins s1 σ H1 _ I1 q1) λu s2 ⟨y,H2,I2,r2,q2⟩=>
  thn (ho pins s2 σ H2 x y v u _ I2 r1 r2 q2) λd s3 ⟨z,H3,I3,r3,k,e,q3⟩=>?_)) hm
 subst e;cases r3;refine wpAny_truthy_bool ?_;cases k with
 |false=>exact ite_ff ⟨.bl false,H3,I3,rfl,q3⟩
 |true=>exact ite_tt (chain_last (thn (hc pins s3 σ H3 _ I3 q3) λw' s4 ⟨z',H4,I4,r4,q4⟩=>ic pins s4 σ H4 y z' u w' Q I4 r2 r4 q4))
theorem yH{op kT:CmpOp}{r r':R2}(ho:OpR X (compareOp op) r)(ic:OpR X (compareOp kT) r')(ha:PE X a ta)(hb:PE X b tb)(hc:PE X c tc)
  (hm:lastMarks [op,kT] [b,c]=false:=by with_unfolding_all rfl):PT X (.Compare a [op,kT] [b,c] pos) (wK (tH r r' ta tb tc)):=by
 intro pins s σ H Q I h
 refine isTrue_chain (thn (ha pins s σ H _ I h) λv s1 ⟨x,H1,I1,r1,q1⟩=>test_link (thn (hb pins s1 σ H1 _ I1 q1) λu s2 ⟨y,H2,I2,r2,q2⟩=>
  thn (ho pins s2 σ H2 x y v u _ I2 r1 r2 q2) λd s3 ⟨z,H3,I3,r3,k,e,q3⟩=>?_)) hm
 subst e;cases r3;refine wpAny_truthy_bool ?_;cases k with
 |false=>
  obtain ⟨k',e',q'⟩:=q3;cases e';exact ite_ff ⟨H3,I3,q'⟩
 |true=>
  refine ite_tt (test_last (thn (hc pins s3 σ H3 _ I3 q3) λw' s4 ⟨z',H4,I4,r4,q4⟩=>thn (ic pins s4 σ H4 y z' u w' _ I4 r2 r4 q4) λd' s5 ⟨z2,H5,I5,r5,k2,e2,q5⟩=>?_));subst e2;cases r5;exact wpAny_truthy_bool ⟨H5,I5,q5⟩
def Ds(K:PySem.W.Frag)(x:V)(H:Hp)(k:Bool):Prop:=
 match x with
 | .aT=>k=false
 | .bl b=>k=b
 | .int i=>k=(i !=0)
 | .str y=>y.length≤sizeLine∧k=((y.length:Int) !=0)
 | .xP y=>y.size≤sizeLine∧k=((y.size:Int) !=0)
 | .ref p=>(∃xs,bE K H p xs∧k= !xs.isEmpty)∨(∃xs,ed K H p xs∧k= !xs.isEmpty)∨∃cB,H p=some (.dK cB)∧k= !cB.isEmpty
 |_=>False
theorem ui{κ:Type}{cB:List (κ×V)}{vs:List (κ×Value)}(r:KV cB vs):(!vs.isEmpty)= !cB.isEmpty:=by
 cases r<;>rfl
theorem nK{xs:List V}{its:List Value}(r:Vals xs its):(!its.toArray.isEmpty)= !xs.isEmpty:=by
 cases r<;>simp
theorem j5:(sizeLine:Nat)<2^63:=by rw [sizeLine_eq];decide
theorem Dh:GX X (λx H Q=>∃k,Ds X.K x H k∧Q k H):=by
 intro pins s σ H x v Q I rx h;obtain ⟨k,e,q⟩:=h;have hl:=j5;have hs:sizeLine=16777216:=sizeLine_eq;cases x with
 |aT=>
  cases rx;have e':k=false:=e;subst e';exact truthy_none ⟨H,I,q⟩
 |bl b=>
  cases rx;have e':k=b:=e;subst e';exact wpAny_truthy_bool ⟨H,I,q⟩
 |int i=>
  obtain ⟨t,rfl⟩:=rx;have e':k=(i !=0):=e;subst e';exact PySem.P.truthy_int ⟨H,I,q⟩
 |str y=>
  obtain ⟨t,rfl⟩:=rx;obtain ⟨hy,e'⟩:y.length≤sizeLine∧k=((y.length:Int) !=0):=e;subst e';exact PySem.P.truthy_str (by omega) ⟨H,I.tok _,q⟩
 |xP y=>
  obtain ⟨t,rfl⟩:=rx;obtain ⟨hy,e'⟩:y.size≤sizeLine∧k=((y.size:Int) !=0):=e;subst e';exact PySem.W.truthy_bytes (by omega) ⟨H,I.tok _,q⟩
 |ref p=>
  cases rx;have e':(∃xs,bE X.K H p xs∧k= !xs.isEmpty)∨(∃xs,ed X.K H p xs∧k= !xs.isEmpty)∨∃cB,H p=some (.dK cB)∧k= !cB.isEmpty:=e
  rcases e' with ⟨xs,hx,e'⟩ | ⟨xs,hx,e'⟩ | ⟨cB,hx,e'⟩
  ·subst e'
   obtain ⟨its,r,pl,hz⟩:=I.list hx;have hlen:=r.length;exact wpAny_truthy_list pl.isList (by simp only [dQ];omega) ⟨H,I.tok _,by rw [nK r];exact q⟩
  ·subst e'
   obtain ⟨its,r,pl,hz⟩:=I.tuple hx;have hlen:=r.length;exact truthy_tuple pl (by simp only [dQ];omega) ⟨H,I.tok _,by rw [nK r];exact q⟩
  ·subst e'
   obtain ⟨hz,hS,vs,r,m⟩:cB.length≤sizeLine∧(p==sysModules)=false∧∃vs,KV cB vs∧s.heap.DictOf (p7 X.prog X.w) p vs:=I.hok p _ hx;have hlen:cB.length=vs.length:=Paired.length r;exact wpAny_truthy_dict hS m (by omega) ⟨H,I.tok _,by rw [ui r];exact q⟩
 |_=>exact (show False from e).elim
theorem yI(ha:PE X a ta)(he:∀whole,isTrue a X.env whole=(do let v ←whole;standAt a.pos;holding [v] (truthy v))):
  PT X a (λσ H Q=>ta σ H λx H'=>∃k,Ds X.K x H' k∧Q k H'):=by
 intro pins s σ H Q I h;exact isTrue_plain (thn (ha pins s σ H _ I h) λv s1 ⟨x,H1,I1,r1,q1⟩=>Dh pins s1 σ H1 x v Q I1 r1 q1) (he _)
theorem vals1{x:V}{us:List Value}(r:Vals [x] us):∃u,us= [u]∧RelV x u:=by
 cases r with
 |cons r1 r2=>cases r2;exact ⟨_,rfl,r1⟩
theorem vals2{x y:V}{us:List Value}(r:Vals [x,y] us):∃u w',us= [u,w']∧RelV x u∧RelV y w':=by
 cases r with
 |cons r1 r2=>
  cases r2 with
  |cons r3 r4=>cases r4;exact ⟨_,_,rfl,r1,r3⟩
theorem vg(hc:X.calm=true):dJ X (.builtin "max") (λxs H Q=>∃i j,xs= [.int i, .int j]∧Q (.int (if j>i then j else i)) H):=by
 intro pins s σ H xs us Q I r h;obtain ⟨i,j,rfl,q⟩:=h;obtain ⟨u,w',rfl,⟨t,rfl⟩,⟨t',rfl⟩⟩:=vals2 r;refine max_two_ints (I.ok.hd hc) λh' tk k=>⟨_,H,I.kept k,?_,q⟩
 by_cases hj:j>i
 ·rw [if_pos hj,if_pos hj];exact ⟨_,rfl⟩
 ·rw [if_neg hj,if_neg hj];exact ⟨_,rfl⟩
end
structure oW (h:Heap) (x dx C:Addr) (mA:Str→Option Value):Prop where
 obj:h.get? x=some (PySem.W.instObj C dx)
 ns:h.Ns1 dx mA
 ne:dx≠x
theorem vZ{h:Heap}{dx:Addr}{mA:Str→Option Value}(n:h.Ns1 dx mA):∃od,h.get? dx=some od∧∀name,PySem.W.lookIn name od=some (mA name):=by
 obtain ⟨o,es,ep,ho,hd,hk,_,hm⟩:=n;refine ⟨o,ho,λname=>?_⟩;have e:=hm name;unfold nsFind findBy at e;rw [←Array.find?_toList] at e;unfold PySem.W.lookIn;rw [hd];dsimp only
 split
 ·rename_i y q
  rw [q] at e;exact congrArg some e
 ·rename_i q
  rw [q] at e
  have a:es.toList.any (·.refKey)=false:=by
   rw [List.any_eq_false];intro y hy;obtain ⟨z,t,xc⟩:=hk y (Array.mem_toList_iff.mp hy);simp [DictEntry.refKey,xc]
  have a':¬es.toList.any (·.refKey)=true:=by rw [a];exact dP
  rw [if_neg a'];exact congrArg some e
theorem oW.look{h:Heap}{x dx C:Addr}{mA:Str→Option Value}(I:oW h x dx C mA):∃od,PySem.W.InstAt h x (PySem.W.instObj C dx) C (some od)∧∀name,PySem.W.lookIn name od=some (mA name):=
 let ⟨od,ho,hl⟩:=vZ I.ns
 ⟨od,⟨I.obj,rfl,rfl,ho⟩,hl⟩
section
variable {prog:Program} {w:World} {A:Around} {E:Value→Shared→Prop} {s:Shared} {K:PySem.W.Frag} {x dx C f:Addr} {mA:Str→Option Value} {name:Str} {v:Value}
theorem get_map{expr:Bool}{Q:Value→Shared→Prop}(X:K.In s.heap)(I:oW s.heap x dx C mA)(hg:PySem.W.plainGet K C name=true)(hh:PySem.W.hasDictIn K C=true)
  (ha:PySem.W.findIn K (.ref C) name=some none) (hv:mA name=some v) (z8:PySem.W.handedIn v=true) (h:Q v {s with toks:=s.toks+1}):
  wpAny (model prog w) A (getAttr (.ref x) name expr) Q E s:=by
 obtain ⟨od,J,hl⟩:=I.look;exact PySem.W.get_value X J (PySem.W.plainGet_of hg).1 (PySem.W.findObj_own hh ha rfl (by rw [hl,hv])) z8 h
theorem yb{pl:Sem Bool}{Q:Value×List Value→Shared→Prop}(X:K.In s.heap)(I:oW s.heap x dx C mA)(hg:PySem.W.plainGet K C name=true)
  (hf:PySem.W.findIn K (.ref C) name=some (some (.ref f))) (ht:PySem.W.isFn K (.ref f)=true) (hv:mA name=none) (h:Q (.ref f,[.ref x]) s):
  wpAny (model prog w) A (getMethod (.ref x) name pl) Q E s:=by
 obtain ⟨od,J,hl⟩:=I.look;exact PySem.W.method_fn X J (PySem.W.plainGet_of hg).1 (PySem.W.plainGet_of hg).2 hf (beq_iff_eq.mp ht) (by show (PySem.W.lookIn name od).map (·.isSome)=some false;rw [hl,hv];rfl) h
theorem A6{ns:List Str}{Q:Unit→Shared→Prop}(X:K.In s.heap)(I:oW s.heap x dx C mA)
  (hs:PySem.W.findIn K (.ref C) "__setattr__"=some (some (.builtin "object.__setattr__"))) (hp:PySem.W.plainOver K C=true) (ht:PySem.W.takerIn K C name=some none) (hh:PySem.W.hasDictIn K C=true)
  (hw:PySem.Within mA ns) (oy:ns.length≤sizeLine)
  (h:∀h',oW h' x dx C (λy=>if y=name then some v else mA y)→Heap.SameBut dx s.heap h'→Q () {s with heap:=h',toks:=s.toks+2}):
  wpAny (model prog w) A (setAttr (.ref x) name v) Q E s:=by
 obtain ⟨od,J,hl⟩:=I.look;refine PySem.W.set_plain X J hs (PySem.W.osa_open (s:={s with toks:=s.toks+1}) (r:=none) X J hp ht λb=>?_)
 obtain ⟨cd,hc,jC⟩:=PySem.W.any_some hh;have hx:s.heap.get? x=some ⟨.ref C,some dx, .plain, #[]⟩:=I.obj;refine wpAny_bind (wpAny_pure (wpAny_bind (wpAny_bind (wpAny_loadPart hx (wpAny_bind (PySem.W.Looks.here (s:={s with toks:=s.toks+1}) (PySem.W.looks_clsIn X hc) ?_))))))
 rw [jC];refine wpAny_pure (a:=some dx) (wpAny_bind (wpAny_pure (wpAny_bind ?_)));refine wpAny_nsSet1 (s:={s with toks:=s.toks+1}) I.ns λh' B3 iX=>?_
 obtain ⟨oD,SF,SE,OS,Ot,Oo⟩:=B3.count (PySem.Within.cons name v hw);refine wpAny_bind (wpAny_lookBehind OS (by rw [Ot];exact pastItsLine_dict (jU Oo (by rw [dY];omega))) ?_)
 exact wpAny_pure (h _ ⟨(iX.2 _ (Ne.symm I.ne)).trans I.obj,B3,I.ne⟩ iX)
theorem yu{R:Result→Shared→Prop}{vs:List Value}{kw:List (Str×Value)}(X:K.In s.heap)(hm:PySem.W.makesIn K C=true)
  (hi:PySem.W.findIn K (.ref C) "__init__"=some (some (.ref f))) (hf:PySem.W.typeIn K (.ref f)=some (.type "function"))
  (h:codeAny (model prog w) (A.under (.builtin "type.__call__" ⟨.ref C::vs,kw⟩)) (.call (.ref f) ⟨.ref (s.heap.objs.size+1)::vs,kw⟩) (PySem.W.InitBack (s.heap.objs.size+1) R)
   {s with heap:=(s.heap.push PySem.W.emptyDict).push (PySem.W.instObj C s.heap.objs.size)}):
  codeAny (model prog w) A (.call (.ref C) ⟨vs,kw⟩) R s:=by
 obtain ⟨hh,g,d,t,os⟩:=s;exact PySem.W.make_core (PySem.W.makes_of X hm) (PySem.W.looks_findIn X hi) (λself=>PySem.W.bind_fn X self hf) (.inl rfl) h
end
def fU(f:Str)(v:V):List (Str×V)→List (Str×V)
 | []=> [(f,v)]
 | (g,x)::r=>if g=f then (g,v)::r else (g,x)::fU f v r
theorem lR(f g:Str)(v:V):∀fs:List (Str×V),(fU f v fs).lookup g=if g=f then some v else fs.lookup g
 | []=>by
  show List.lookup g [(f,v)]=_
  by_cases h:g=f
  ·have hb:(g==f)=true:=beq_iff_eq.mpr h
   simp only [List.lookup,hb,if_pos h]
  ·have hb:(g==f)=false:=beq_eq_false_iff_ne.mpr h
   simp only [List.lookup,hb,if_neg h]
 | (k,x)::r=>by
  have ih:=lR f g v r;rw [show fU f v ((k,x)::r)=(if k=f then (k,v)::r else (k,x)::fU f v r) from rfl]
  by_cases hk:k=f
  ·rw [if_pos hk]
   by_cases h:g=k
   ·have hb:(g==k)=true:=beq_iff_eq.mpr h
    simp only [List.lookup,hb,if_pos (h.trans hk)]
   ·have hb:(g==k)=false:=beq_eq_false_iff_ne.mpr h
    simp only [List.lookup,hb,if_neg (λe:g=f=>h (e.trans hk.symm))]
  ·rw [if_neg hk]
   by_cases h:g=k
   ·have hb:(g==k)=true:=beq_iff_eq.mpr h
    simp only [List.lookup,hb,if_neg (λe:g=f=>hk (h.symm.trans e))]
   ·have hb:(g==k)=false:=beq_eq_false_iff_ne.mpr h
    simp only [List.lookup,hb];exact ih
theorem kK(f:Str)(v:V):∀fs:List (Str×V),f∈(fU f v fs).map (·.1)∧∀g,g∈fs.map (·.1)→g∈(fU f v fs).map (·.1)
 | []=>⟨by simp [fU],λg h=>by simp at h⟩
 | (k,x)::r=>by
  obtain ⟨i1,i2⟩:=kK f v r;rw [show fU f v ((k,x)::r)=(if k=f then (k,v)::r else (k,x)::fU f v r) from rfl]
  by_cases hk:k=f
  ·rw [if_pos hk]
   subst hk;exact ⟨by simp,λg h=>by simpa using h⟩
  ·rw [if_neg hk]
   refine ⟨?_,λg h=>?_⟩
   ·rw [jT]
    exact fJ _ i1
   ·rw [jT] at h ⊢
    rcases cV.mp h with e|e
    ·exact cV.mpr (.inl e)
    ·exact fJ _ (i2 g e)
theorem lQ(f:Str)(v:V):∀fs:List (Str×V),(fU f v fs).length≤fs.length+1
 | []=>by simp [fU]
 | (k,x)::r=>by
  have ih:=lQ f v r;rw [show fU f v ((k,x)::r)=(if k=f then (k,v)::r else (k,x)::fU f v r) from rfl]
  by_cases hk:k=f
  ·rw [if_pos hk,dY,dY];omega
  ·rw [if_neg hk,dY,dY];omega
theorem kh.some_of{v:V}{o:Option Value}(r:kh (some v) o):∃u,o=some u∧RelV v u:=by
 cases o with
 |none=>exact (show False from r).elim
 |some u=>exact ⟨u,rfl,r⟩
theorem kh.none_of{o:Option Value}(r:kh none o):o=none:=by
 cases o with
 |none=>rfl
 |some u=>exact (show False from r).elim
theorem vE{v:V}{u:Value}(r:RelV v u):PySem.W.handedIn u=true:=by
 cases v with
 |aT=>cases (show u=Value.none from r);rfl
 |bl b=>cases (show u=Value.bool b from r);rfl
 |int i=>obtain ⟨t,e⟩:=(show ∃t,u=Value.int i t from r);cases e;rfl
 |str x=>obtain ⟨t,e⟩:=(show ∃t,u=Value.str x t from r);cases e;rfl
 |xP b=>obtain ⟨t,e⟩:=(show ∃t,u=Value.bytes b t from r);cases e;rfl
 |vy b=>obtain ⟨t,e⟩:=(show ∃t,u=Value.float b t from r);cases e;rfl
 |ref a=>cases (show u=Value.ref a from r);rfl
 |ty n=>cases (show u=Value.type n from r);rfl
section
variable {P:Program} {w:World} {H H':Hp} {h h':Heap} {a C dx:Addr} {fs Oa:List (Str×V)}
theorem lN(hok:fX P w H h)(e:H a=some (.ins C dx fs)):∃mA,oW h a dx C mA∧(∀f,kh (fs.lookup f) (mA f))∧PySem.Within mA (fs.map (·.1))∧fs.length≤1000∧H dx=some (.own a):=by
 obtain ⟨d,z,ne,ob,mA,n,r,q⟩:=(show bR P w H h a (.ins C dx fs) from hok a _ e);exact ⟨mA,⟨ob,n,ne⟩,r,q,z,d⟩
end
structure qG (K:PySem.W.Frag) (C:Addr):Prop where
 pg:PySem.W.plainGet K C Str.empty=true
 hd:PySem.W.hasDictIn K C=true
 po:PySem.W.plainOver K C=true
 sa:PySem.W.findIn K (.ref C) "__setattr__"=some (some (.builtin "object.__setattr__"))
theorem qG.get{K:PySem.W.Frag}{C:Addr}(c:qG K C)(f:Str):PySem.W.plainGet K C f=true:=c.pg
def iR(K:PySem.W.Frag)(C:Addr)(f:Str):Prop:=PySem.W.findIn K (.ref C) f=some none
theorem iR.GJ{K:PySem.W.Frag}{C:Addr}{f:Str}(n:iR K C f):PySem.W.takerIn K C f=some none:=by
 unfold PySem.W.takerIn;rw [show PySem.W.findIn K (.ref C) f=some none from n];rfl
structure Meth (K:PySem.W.Frag) (C:Addr) (m:Str) (f:Addr):Prop where
 at_:PySem.W.findIn K (.ref C) m=some (some (.ref f))
 fn:PySem.W.isFn K (.ref f)=true
 kp:PySem.W.keepIn K (.ref f)=true
section
variable {X:Cx} {pins:List (Addr×Obj)} {σ:St} {H:Hp} {s:Shared} {a C dx:Addr} {fs:List (Str×V)} {f:Str} {v:V} {A:Around} {E:Value→Shared→Prop}
theorem ud{b:Bool}{Q:Value→Shared→Prop}(I:Inv X pins σ H s)(e:H a=some (.ins C dx fs))(c:qG X.K C)(n:iR X.K C f)(l:fs.lookup f=some v)
  (h:∀u s',Inv X pins σ H s'→RelV v u→Q u s'):wpAny (model X.prog X.w) A (getAttr (.ref a) f b) Q E s:=by
 obtain ⟨mA,O,r,_,_,_⟩:=lN I.hok e;obtain ⟨u,hu,ru⟩:=kh.some_of (v:=v) (o:=mA f) (by rw [←l];exact r f)
 exact get_map I.fZ O (c.get f) c.hd n hu (vE ru) (h u _ (I.tok _) ru)
theorem ue{m:Str}{g:Addr}{pl:Sem Bool}{Q:Value×List Value→Shared→Prop}(I:Inv X pins σ H s)(e:H a=some (.ins C dx fs))(c:qG X.K C)(k:Meth X.K C m g)(l:fs.lookup m=none)
  (h:Q (.ref g,[.ref a]) s):wpAny (model X.prog X.w) A (getMethod (.ref a) m pl) Q E s:=by
 obtain ⟨mA,O,r,_,_,_⟩:=lN I.hok e;have hn:mA m=none:=kh.none_of (by rw [←l];exact r m)
 exact yb I.fZ O (c.get m) k.at_ k.fn hn h
theorem uK{y:V}{u:Value}{Q:Unit→Shared→Prop}(I:Inv X pins σ H s)(e:H a=some (.ins C dx fs))(c:qG X.K C)(n:iR X.K C f)(hl:fs.length<1000)(ry:RelV y u)
  (h:∀s',Inv X pins σ (upd H a (.ins C dx (fU f y fs))) s'→Q () s'):wpAny (model X.prog X.w) A (setAttr (.ref a) f u) Q E s:=by
 obtain ⟨mA,O,r,wi,_,ho⟩:=lN I.hok e;have hz:(fs.map (·.1)).length≤sizeLine:=by rw [aW,sizeLine_eq];omega
 refine A6 I.fZ O c.sa c.po n.GJ c.hd wi hz λh' O' sb=>h _ ?_;have hd:∃o,h'.get? dx=some o:=let ⟨o,_,_,e',_⟩:=O'.ns;⟨o,e'⟩;refine I.write (x:=a) (e:=dx) (by rw [e];exact True.intro) (.inr ho) (λb q hb z=>(sb.2 b hb).trans z) hd ?_
 refine ⟨by rw [ax O.ne];exact ho,?_,O.ne,O'.obj,_,O'.ns,λg=>?_,λg hg=>?_⟩
 ·have:=lQ f y fs;omega
 ·show kh ((fU f y fs).lookup g) (if g=f then some u else mA g)
  rw [lR]
  by_cases q:g=f
  ·rw [if_pos q,if_pos q];exact ry
  ·rw [if_neg q,if_neg q];exact r g
 ·by_cases q:g=f
  ·rw [q];exact (kK f y fs).1
  ·refine (kK f y fs).2 g (wi g λz=>hg ?_)
   show (if g=f then some u else mA g)=none;rw [if_neg q];exact z
theorem Inv.made(I:Inv X pins σ H s):Inv X pins σ (upd (upd H s.heap.objs.size (.own (s.heap.objs.size+1))) (s.heap.objs.size+1) (.ins C s.heap.objs.size []))
  {s with heap:=(s.heap.push PySem.W.emptyDict).push (PySem.W.instObj C s.heap.objs.size)}:=by
 have e1:(s.heap.push PySem.W.emptyDict).get? s.heap.objs.size=some PySem.W.emptyDict:=Heap.get?_push_size s.heap rfl
 have e2:((s.heap.push PySem.W.emptyDict).push (PySem.W.instObj C s.heap.objs.size)).get? (s.heap.objs.size+1)=some (PySem.W.instObj C s.heap.objs.size):=by
  have:=Heap.get?_push_size (s.heap.push PySem.W.emptyDict) (o:=PySem.W.instObj C s.heap.objs.size) rfl
  rwa [Heap.size_push] at this
 have e3:(s.heap.push PySem.W.emptyDict).Ns s.heap.objs.size (λ_=>none):=⟨PySem.W.emptyDict, #[],_,e1,rfl,(λe he=>absurd he (by simp)),λ_=>rfl⟩
 have I1:=I.laid (a:=s.heap.objs.size) (o:= .own (s.heap.objs.size+1)) (h':=s.heap.push PySem.W.emptyDict) (t':=s.toks) (λb u q=>Heap.get?_push_of_some _ q) (bC _) ⟨_,e1⟩;refine I1.laid (a:=s.heap.objs.size+1) (o:= .ins C s.heap.objs.size []) (t':=s.toks) (λb u q=>Heap.get?_push_of_some _ q) (Nat.le_of_eq (Heap.size_push _ _)) ?_;have ne:s.heap.objs.size≠s.heap.objs.size+1:=cn (Nat.lt_succ_self _);refine ⟨by rw [ax ne,av],fI _,ne,e2,λ_=>none,(Heap.Ns1.of_empty e3).at λo q=>Heap.get?_push_of_some _ q,λ_=>True.intro,λy hy=>absurd rfl hy⟩
theorem y4{prog:Program}{w:World}{env:Env}{e:Expr}{f:Str}{pos:Pos}{s:Shared}{Q:Value→Shared→Prop}(hb:attributeBase e f env (eval e env)=eval e env)
  (h:wpAny (model prog w) A (eval e env) (λo s₁=>wpAny (model prog w) A (getAttr o f true) Q E s₁) E s):wpAny (model prog w) A (eval (.Attribute e f pos) env) Q E s:=
 Attribute_any_ h (by rw [arm_eval_Attribute,hb])
end
def Mb(K:PySem.W.Frag)(ta:TE)(f:Str):TE:=λσ H Q=>ta σ H λx H1=>∃a C dx fs v,x= .ref a∧H1 a=some (.ins C dx fs)∧qG K C∧iR K C f∧fs.lookup f=some v∧Q v H1
def LH(K:PySem.W.Frag)(ta tv:TE)(f:Str):TS:=λD σ H=>tv σ H λy H1=>ta σ H1 λx H2=>∃a C dx fs,x= .ref a∧H2 a=some (.ins C dx fs)∧qG K C∧iR K C f∧fs.length<1000∧
 D.nx σ (upd H2 a (.ins C dx (fU f y fs)))
section
variable {X:Cx} {o e value:Expr} {f:Str} {pos pos' Sw:Pos} {ta tv:TE}
theorem CH(he:PE X e ta)(hb:attributeBase e f X.env (eval e X.env)=eval e X.env):PE X (.Attribute e f pos) (Mb X.K ta f):=by
 intro pins s σ H Q I h;refine y4 hb (thn (he pins s σ H _ I h) λu s1 ⟨x,H1,I1,rx,a,C,dx,fs,v,ex,ea,c,n,l,q⟩=>?_);subst ex;obtain rfl:u=Value.ref a:=rx;exact ud I1 ea c n l λu' s2 I2 ru=>⟨v,H1,I2,ru,q⟩
theorem CQ(ha:PE X o ta)(hv:PE X value tv)(hs:swapsWith value (some (.Attribute o f pos')) pos.line X.env=pure false):PS X (.Assign [.Attribute o f pos'] value pos) (LH X.K ta tv f):=by
 intro pins s σ H D I h;refine plainObj_wpAny_Assign_Attribute (thn (hv pins s σ H _ I h) λu s1 ⟨y,H1,I1,ry,q⟩=>thn (ha pins s1 σ H1 _ I1 q) λov s2 ⟨x,H2,I2,rx,a,C,dx,fs,ex,ea,c,n,l,q2⟩=>?_) hs;subst ex;obtain rfl:ov=Value.ref a:=rx;exact uK I2 ea c n l ry λs3 I3=>⟨σ,_,I3,q2⟩
end
section
variable {X:Cx} {pins:List (Addr×Obj)} {σ:St} {H:Hp} {s:Shared} {A:Around} {E:Value→Shared→Prop} {Q:Value→Shared→Prop} {c:Value} {b:Bool}
inductive gX (K:PySem.W.Frag) (H:Hp):V→Value→Prop where
 |aT:gX K H .aT (.type "NoneType")
 |bl (x:Bool):gX K H (.bl x) (.type "bool")
 |int (i:Int):gX K H (.int i) (.type "int")
 |str (x:Str):gX K H (.str x) (.type "str")
 |vy (x:UInt64):gX K H (.vy x) (.type "float")
 |lst {a:Addr} {xs:List V} (e:H a=some (.lst xs)):gX K H (.ref a) (.type "list")
 |lH {a:Addr} {o:Obj} {xs:List V} (e:H a=some (.lH o (.lst xs))):gX K H (.ref a) (.type "list")
 |tup {a:Addr} {xs:List V} (e:H a=some (.tup xs)):gX K H (.ref a) (.type "tuple")
 |dK {a:Addr} {cB:List (Key×V)} (e:H a=some (.dK cB)):gX K H (.ref a) (.type "dict")
 |dT {a:Addr} {cB:List (List Key×V)} (e:H a=some (.dT cB)):gX K H (.ref a) (.type "dict")
 |ins {a C dx:Addr} {fs:List (Str×V)} (e:H a=some (.ins C dx fs)) (cl:qG K C) (ha:PySem.W.findIn K (.ref C) "__class__"=some (some (.builtin "object.__class__")))
   (hn:PySem.W.specialIn K (.builtin "object.__class__") "__get__"=some (some (.builtin "getset_descriptor.__get__"))) (JK:PySem.W.takesIn K (.builtin "object.__class__")=some true)
   (hm:PySem.W.mroIn K C (.type "object")=some true):gX K H (.ref a) (.ref C)
theorem vT{x:V}{u t:Value}(I:Inv X pins σ H s)(rx:RelV x u)(ty:gX X.K H x t)(e:PySem.W.kitOne X.K t c=some b)(h:∀tk,Q (.bool b) {s with toks:=tk}):
  wpAny (model X.prog X.w) A (call (.builtin "isinstance") [u,c]) Q E s:=by
 cases ty with
 |aT=>cases (show u=Value.none from rx);exact PySem.W.kia_one PySem.W.kitx_none I.fZ True.intro e (λz=>nomatch z) h
 |bl y=>cases (show u=Value.bool y from rx);exact PySem.W.kia_one PySem.W.kitx_bool I.fZ True.intro e (λz=>nomatch z) h
 |int i=>obtain ⟨t,q⟩:=(show ∃t,u=Value.int i t from rx);cases q;exact PySem.W.kia_one PySem.W.kitx_int I.fZ True.intro e (λz=>nomatch z) h
 |str y=>obtain ⟨t,q⟩:=(show ∃t,u=Value.str y t from rx);cases q;exact PySem.W.kia_one PySem.W.kitx_str I.fZ True.intro e (λz=>nomatch z) h
 |vy y=>obtain ⟨t,q⟩:=(show ∃t,u=Value.float y t from rx);cases q;exact PySem.W.kia_one PySem.W.kitx_float I.fZ True.intro e (λz=>nomatch z) h
 | @lst a xs ea=>
  cases (show u=Value.ref a from rx);obtain ⟨_,_,n,_,h1⟩:=(show bR X.prog X.w H s.heap a (.lst xs) from I.hok a _ ea);exact PySem.W.kia_one PySem.W.kitx_list I.fZ ⟨_,h1,rfl⟩ e (λz=>nomatch z) h
 | @lH a ob xs ea=>
  cases (show u=Value.ref a from rx);obtain ⟨_,_,_,n,_,h1⟩:=(show bR X.prog X.w H s.heap a (.lH ob (.lst xs)) from I.hok a _ ea);exact PySem.W.kia_one PySem.W.kitx_list I.fZ ⟨_,h1,rfl⟩ e (λz=>nomatch z) h
 | @tup a xs ea=>
  cases (show u=Value.ref a from rx);obtain ⟨_,_,_,p⟩:=(show bR X.prog X.w H s.heap a (.tup xs) from I.hok a _ ea);obtain ⟨o,h1,h2,_⟩:=p;exact PySem.W.kia_one PySem.W.kitx_tuple I.fZ ⟨o,h1,h2⟩ e (λz=>nomatch z) h
 | @dK a cB ea=>
  cases (show u=Value.ref a from rx);obtain ⟨_,_,vs,_,p⟩:=(show bR X.prog X.w H s.heap a (.dK cB) from I.hok a _ ea);obtain ⟨o,es,ep,h1,h2,_⟩:=p;exact PySem.W.kia_one PySem.W.kitx_dict I.fZ ⟨o,h1,h2.1⟩ e (λz=>nomatch z) h
 | @dT a cB ea=>
  cases (show u=Value.ref a from rx);obtain ⟨_,_,xs,_,o,es,ep,h1,h2,_⟩:=(show bR X.prog X.w H s.heap a (.dT cB) from I.hok a _ ea);exact PySem.W.kia_one PySem.W.kitx_dict I.fZ ⟨o,h1,h2.1⟩ e (λz=>nomatch z) h
 | @ins a C dx fs ea cl ha hn JK hm=>
  cases (show u=Value.ref a from rx);obtain ⟨mA,O,_⟩:=lN I.hok ea;obtain ⟨od,J,_⟩:=O.look;exact PySem.W.kia_one (PySem.W.kitx_own (cl.get _) cl.hd ha hn JK hm) I.fZ J e (λz=>nomatch z) h
end
structure bI (k:Nat) (A:Around):Prop where
 hd:A.handled=none
 dp:A.depth+3*k+5<recursionLimit
 un:A.units+16*k+200<cLine
theorem bI.mono{j k:Nat}{A:Around}(r:bI k A)(h:j≤k):bI j A:=⟨r.hd,by have:=r.dp;omega,by have:=r.un;omega⟩
theorem bI.deeper{k:Nat}{A:Around}(r:bI (k+1) A)(env:Env):bI k (A.deeper env):=
 ⟨r.hd,by have:=r.dp;show A.depth+1+3*k+5<_;omega,by have:=r.un;show A.units+3+16*k+200<_;omega⟩
theorem uo{A:Around}{C:Addr}{us:List Value}{kw:List (Str×Value)}:(A.under (.builtin "type.__call__" ⟨.ref C::us,kw⟩)).depth=A.depth+1:=by
 first|rfl|simp [Around.under,Code.weight,Code.isCreation,Code.isGuard,Code.isCaller,Code.frames,Code.isFrame,guardIds]
theorem uq{A:Around}{C:Addr}{us:List Value}{kw:List (Str×Value)}:(A.under (.builtin "type.__call__" ⟨.ref C::us,kw⟩)).units=A.units+1:=by
 first|rfl|simp [Around.under,Code.cUnits,Code.frames,Code.isFrame]
theorem bI.make{k:Nat}{A:Around}(r:bI (k+1) A)(C:Addr)(us:List Value)(kw:List (Str×Value)):bI k (A.under (.builtin "type.__call__" ⟨.ref C::us,kw⟩)):=
 ⟨r.hd,by have:=r.dp;rw [uo];omega,by have:=r.un;rw [uq];omega⟩
theorem bI.depth{k:Nat}{A:Around}(r:bI k A):A.depth<recursionLimit:=by have:=r.dp;omega
theorem bI.units{k:Nat}{A:Around}(r:bI k A):A.units+64<cLine:=by have:=r.un;omega
def Ep:TA:=λ_ H Q=>Q [] H
def GB(ta:TE)(tr:TA):TA:=λσ H Q=>ta σ H λx H1=>tr σ H1 λxs H2=>Q (x::xs) H2
section
variable {X:Cx} {e:Expr} {es:List Expr} {te:TE} {t:TA} {pos:Pos}
theorem fj:PA X [] Ep:=λ_ _ _ _ H Q I h=>Calls.spliced_nil ⟨[],H,I, .nil,h⟩
theorem cC(ha:PE X e te)(hr:PA X es t)(hs:starEach (e::es) X.env=(false,eval e X.env)::starEach es X.env:=by rfl):PA X (e::es) (GB te t):=by
 intro pos pins s σ H Q I h;rw [hs];show wpAny _ _ (spliced ((false,eval e X.env)::backTo pos (starEach es X.env))) _ _ s;refine Calls.spliced_cons (thn (ha pins s σ H _ I h) λu s1 ⟨x,H1,I1,r1,q1⟩=>?_);exact thn (hr pos pins s1 σ H1 _ I1 q1) λus s2 ⟨xs,H2,I2,r2,q2⟩=>⟨x::xs,H2,I2, .cons r1 r2,q2⟩
def Mi(t:TA):TE:=λσ H Q=>t σ H λxs H1=>xs.length≤sizeLine∧∀p,H1 p=none→Q (.ref p) (upd H1 p (.tup xs))
def Me(t:TA):TE:=λσ H Q=>t σ H λxs H1=>xs.length≤sizeLine∧∀p,H1 p=none→Q (.ref p) (upd H1 p (.lst xs))
theorem CN{x1}(h:PA X es t):PE X (.Tuple es x1 pos) (Mi t):=by
 intro pins s σ H Q I hq;refine wpAny_Tuple_spliced (thn (h pos pins s σ H _ I hq) λus s1 ⟨xs,H1,I1,r,z,q⟩=>⟨by rw [←r.length];exact z,?_⟩)
 have hf:H1 s1.heap.objs.size=none:=I1.hok.fresh (bC _);refine ⟨.ref s1.heap.objs.size,upd H1 s1.heap.objs.size (.tup xs),I1.laid (t':=s1.toks) (λb u e=>Heap.get?_push_of_some _ e) (bC _) ?_,rfl,q _ hf⟩;exact ⟨z,us,r,⟨_,Heap.get?_push_size _ rfl,rfl,_,rfl⟩⟩
theorem oR(h:PA X es t):PE X (.List es pos) (Me t):=by
 intro pins s σ H Q I hq;refine wpAny_List_spliced (thn (h pos pins s σ H _ I hq) λus s1 ⟨xs,H1,I1,r,z,q⟩=>⟨by rw [←r.length];exact z,?_⟩)
 have hf:H1 s1.heap.objs.size=none:=I1.hok.fresh (bC _);refine ⟨.ref s1.heap.objs.size,upd H1 s1.heap.objs.size (.lst xs),I1.laid (t':=s1.toks) (λb u e=>Heap.get?_push_of_some _ e) (bC _) ?_,rfl,q _ hf⟩;exact ⟨z,us,0,r,Heap.get?_push_size _ rfl⟩
end
abbrev Sp:=List V→Hp→VK→XK→Prop
abbrev mD:=List Env→Hp→Shared→XK→Value→Shared→Prop
structure Env0 (P:Program) (w:World) (K:PySem.W.Frag) (mg:Str→Option Value) (base:Heap) (A:Around) (outer:List Env) (s:Shared) (H:Hp):Prop where
 frames:A.frames=some outer
 mod:Mod K mg base
 bs:∀b o,base.get? b=some o→s.heap.get? b=some o∧H b=none
 bsz:base.objs.size≤s.heap.objs.size
 funs:s.heap.FunFrames base outer
 frf:∀b∈pN outer,H b=none
 hok:fX P w H s.heap
 bare:AllBare s.gens
def CE(outer:List Env)(P:Program)(w:World)(H:Hp)(s:Shared)(Q:VK)(u:Value)(s':Shared):Prop:=
 ∃v H',s'.os=s.os∧AllBare s'.gens∧Un (pN outer) [] H H' s.heap s'.heap∧fX P w H' s'.heap∧RelV v u∧Q v H'
def CR(CX:mD)(outer:List Env)(P:Program)(w:World)(H:Hp)(s:Shared)(Q:VK)(E:XK)(r:Result)(s':Shared):Prop:=
 match r with
 | .ok (.ret u)=>CE outer P w H s Q u s'
 | .ok _=>False
 | .error e=>CX outer H s E e s'
structure FnOk (P:Program) (w:World) (K:PySem.W.Frag) (mg:Str→Option Value) (base:Heap) (CX:mD) (k:Nat) (f:Addr) (fd:FuncData) (ps:List Str) (sp:Sp):Prop where
 len:∀vs H Q E,sp vs H Q E→vs.length=ps.length
 run:∀(A:Around)(outer:List Env)(s:Shared)(H:Hp)(args:Args)(us:List Value)(vs:List V)(Q:VK)(E:XK),bI k A→Env0 P w K mg base A outer s H→BindsTo s fd args (ps.zip us)→Vals vs us→sp vs H Q E→
  codeAny (model P w) A (.call (.ref f) args) (CR CX outer P w H s Q E) s
theorem FnOk.mono{P:Program}{w:World}{K:PySem.W.Frag}{mg:Str→Option Value}{base:Heap}{CX:mD}{j k:Nat}{f:Addr}{fd:FuncData}{ps:List Str}{sp:Sp}(F:FnOk P w K mg base CX j f fd ps sp)(h:j≤k):
  FnOk P w K mg base CX k f fd ps sp:=⟨F.len,λA outer s H args us vs Q E hr=>F.run A outer s H args us vs Q E (hr.mono h)⟩
theorem FnOk.imp{P:Program}{w:World}{K:PySem.W.Frag}{mg:Str→Option Value}{base:Heap}{CX:mD}{k:Nat}{f:Addr}{fd:FuncData}{ps:List Str}{sp L0:Sp}(F:FnOk P w K mg base CX k f fd ps sp)
  (h:∀vs H Q E,L0 vs H Q E→sp vs H Q E):FnOk P w K mg base CX k f fd ps L0:=
 ⟨λvs H Q E q=>F.len vs H Q E (h _ _ _ _ q),λA outer s H args us vs Q E hr he hb hv hs=>F.run A outer s H args us vs Q E hr he hb hv (h _ _ _ _ hs)⟩
theorem Env0.make{P:Program}{w:World}{K:PySem.W.Frag}{mg:Str→Option Value}{base:Heap}{A:Around}{outer:List Env}{s:Shared}{H:Hp}(e:Env0 P w K mg base A outer s H)(C:Addr)(us:List Value)(kw:List (Str×Value)):
  Env0 P w K mg base (A.under (.builtin "type.__call__" ⟨.ref C::us,kw⟩)) outer s H:=⟨by first|exact e.frames| (simpa [Around.under,Code.envs,Code.isFrame,pushEnvs] using e.frames),e.mod,e.bs,e.bsz,e.funs,e.frf,e.hok,e.bare⟩
section
variable {X:Cx} {pins:List (Addr×Obj)} {σ:St} {H:Hp} {s s':Shared}
theorem Inv.D7(I:Inv X pins σ H s):Env0 X.prog X.w X.K X.mg X.base X.A X.stack s H:=
 ⟨I.ok.frames,I.ok.mod,I.bs,jU I.ok.bsz I.sz,I.stack,I.uR,I.hok,I.bare⟩
theorem Inv.after{Q:VK}{u:Value}(I:Inv X pins σ H s)(h:CE X.stack X.prog X.w H s Q u s'):EP X pins σ Q u s':=by
 obtain ⟨v,H',os,bare,un,hok,r,q⟩:=h;obtain ⟨hh,g,d,t,Gj⟩:=s';obtain rfl:Gj=s.os:=os;exact ⟨v,H',I.call (h':=hh) (g':=g) (d':=d) (t':=t) (ch:= []) un hok bare (λb z=>absurd z (by simp)),r,q⟩
end
def GA(sp:Sp)(aV:List V)(E:XK)(t:TA):TE:=λσ H Q=>t σ H λvs H1=>sp (vs++aV) H1 Q E
def Bm(C:Addr)(m:Str)(sp:Sp)(aV:List V)(E:XK)(ta:TE)(t:TA):TE:=λσ H Q=>ta σ H λx H1=>∃a dx fs,x= .ref a∧H1 a=some (.ins C dx fs)∧fs.lookup m=none∧
 t σ H1 λvs H2=>sp (x::(vs++aV)) H2 Q E
def GD(C:Addr)(sp:Sp)(aV:List V)(E:XK)(t:TA):TE:=λσ H Q=>t σ H λvs H1=>∀x dx,H1 x=none→H1 dx=none→dx≠x→
 sp (.ref x::(vs++aV)) (upd (upd H1 dx (.own x)) x (.ins C dx [])) (λv H2=>v= .aT∧Q (.ref x) H2) E
def Binds(K:PySem.W.Frag)(fd:FuncData)(ps:List Str)(ds:List Value):Prop:=
 ∀(s:Shared)(us:List Value),K.In s.heap→(us++ds).length=ps.length→BindsTo s fd ⟨us,[]⟩ (ps.zip (us++ds))
theorem Binds.all{K:PySem.W.Frag}{fd:FuncData}{ps:List Str}(h:∀us:List Value,us.length=ps.length→bindArgs fd ⟨us,[]⟩=pure (ps.zip us)):Binds K fd ps []:=λs us _ hl=>by
 rw [mz] at hl ⊢;exact .of_eq (h us hl)
def Passes(CX:mD)(X:Cx)(E:XK):Prop:=∀(pins:List (Addr×Obj))(σ:St)(H:Hp)(s:Shared)(e:Value)(s':Shared),Inv X pins σ H s→CX X.stack H s E e s'→X.xe e s'
section
variable {X:Cx} {CX:mD} {k:Nat} {f C:Addr} {fd:FuncData} {ps:List Str} {sp:Sp} {aV:List V} {ds:List Value} {E:XK} {x m:Str} {p pos apos:Pos} {e o:Expr} {es:List Expr} {ta:TE} {t:TA}
theorem xv{pins:List (Addr×Obj)}{σ:St}{H:Hp}{s:Shared}{Q:VK}{us:List Value}{vs:List V}(F:FnOk X.prog X.w X.K X.mg X.base CX k f fd ps sp)(hr:bI k X.A)(hb:Binds X.K fd ps ds)(hd:Vals aV ds)(hx:Passes CX X E)
  (I:Inv X pins σ H s) (r:Vals vs us) (h:sp (vs++aV) H Q E):wpAny (model X.prog X.w) X.A (call (.ref f) us) (EP X pins σ Q) X.xe s:=by
 have r2:Vals (vs++aV) (us++ds):=r.append hd;have hl:(us++ds).length=ps.length:=by rw [←r2.length];exact F.len _ _ _ _ h
 refine wpAny_call (codeAny_mono (F.run X.A X.stack s H ⟨us,[]⟩ (us++ds) (vs++aV) Q E hr I.D7 (hb s us I.fZ hl) r2 h) λr s' hq=>?_);cases r with
 |error e=>exact hx pins σ H s e s' I hq
 |ok fl=>
  cases fl with
  |ret u=>exact I.after hq
  |next=>exact False.elim hq
  |brk=>exact False.elim hq
  |cont=>exact False.elim hq
theorem uA(F:FnOk X.prog X.w X.K X.mg X.base CX k f fd ps sp)(hr:bI k X.A)(hg:Gl X x)(hm:X.mg x=some (.ref f))(hk:PySem.W.keepIn X.K (.ref f)=true)(hb:Binds X.K fd ps ds)(hd:Vals aV ds)(hx:Passes CX X E)
  (ha:PA X (e::es) t) (gB:(x==("__debug__":Str))=false:=by decide) (he:starEach (e::es) X.env=(false,eval e X.env)::starEach es X.env:=by rfl) (dG:(backTo pos (starEach es X.env)).any (·.1)=false:=by rfl):
  PE X (.Call (.Name x p) (e::es) [] pos) (GA sp aV E t):=by
 intro pins s σ H Q I h;refine wpAny_Call_Name_kw (pY I hg hm ?_ gB);refine PySem.W.callWith_K (h₀:=X.base) I.ok.mod.kin hk (thn (ha pos pins s σ H _ I h) λus s1 ⟨vs,H1,I1,r,q⟩=>⟨I1.fZ,?_⟩) he dG;exact xv F hr hb hd hx I1 r q
theorem yB{pl:Sem Bool}(he:PE X o ta)(c:qG X.K C)(hm:Meth X.K C m f)(F:FnOk X.prog X.w X.K X.mg X.base CX k f fd ps sp)(hr:bI k X.A)(hb:Binds X.K fd ps ds)(hd:Vals aV ds)(hx:Passes CX X E)
  (ht:eval (.Call (.Attribute o m apos) [] [] pos) X.env=(do
   let ov ←eval o X.env
   standAt apos.atName
   let (f,first) ←holding [ov] (getMethod ov m pl)
   callWith pos f first (backTo pos (starEach [] X.env)) (backToKw pos (keywordEach [] X.env))):=by rfl):
  PE X (.Call (.Attribute o m apos) [] [] pos) (Bm C m sp aV E ta Ep):=by
 intro pins s σ H Q I h;refine PySem.W.methodCall_KW (pl:=pl) (thn (he pins s σ H _ I h) λu s1 ⟨x,H1,I1,rx,a,dx,fs,ex,ea,l,q⟩=>?_) ht;subst ex;obtain rfl:u=Value.ref a:=rx;refine ue I1 ea c hm l ?_;exact PySem.W.callWith_K0 (first:= [.ref a]) I1.fZ hm.kp (xv (us:= [.ref a]) (vs:= [.ref a]) F hr hb hd hx I1 (.cons rfl .nil) q)
structure Mk (K:PySem.W.Frag) (C f:Addr):Prop where
 makes:PySem.W.makesIn K C=true
 init:PySem.W.findIn K (.ref C) "__init__"=some (some (.ref f))
 fn:PySem.W.isFn K (.ref f)=true
 kp:PySem.W.keepIn K (.ref C)=true
theorem yK{pins:List (Addr×Obj)}{σ:St}{H:Hp}{s:Shared}{Q:VK}{us:List Value}{vs:List V}(M:Mk X.K C f)(F:FnOk X.prog X.w X.K X.mg X.base CX k f fd ps sp)(hr:bI (k+1) X.A)(hb:Binds X.K fd ps ds)(hd:Vals aV ds)
  (hx:Passes CX X E) (I:Inv X pins σ H s) (r:Vals vs us)
  (h:∀x dx,H x=none→H dx=none→dx≠x→sp (.ref x::(vs++aV)) (upd (upd H dx (.own x)) x (.ins C dx [])) (λv H2=>v= .aT∧Q (.ref x) H2) E):
  wpAny (model X.prog X.w) X.A (call (.ref C) us) (EP X pins σ Q) X.xe s:=by
 have hq:=h (s.heap.objs.size+1) s.heap.objs.size (I.hok.fresh (Nat.le_succ _)) (I.hok.fresh (bC _)) (cn (Nat.lt_succ_self _));have I2:=Inv.made (C:=C) I;have r2:Vals (V.ref (s.heap.objs.size+1)::(vs++aV)) (Value.ref (s.heap.objs.size+1)::(us++ds)):= .cons rfl (r.append hd)
 have hl:(Value.ref (s.heap.objs.size+1)::us++ds).length=ps.length:=by
  have e:=r2.length;rw [F.len _ _ _ _ hq] at e;exact e.symm
 refine wpAny_call (yu (f:=f) I.fZ M.makes M.init (beq_iff_eq.mp M.fn) (codeAny_mono (F.run _ X.stack _ _ ⟨Value.ref (s.heap.objs.size+1)::us,[]⟩ (Value.ref (s.heap.objs.size+1)::(us++ds)) _ _ E (hr.make C us [])
  (I2.D7.make C us []) (hb _ (Value.ref (s.heap.objs.size+1)::us) I2.fZ hl) r2 hq) λr s' z6=>?_))
 cases r with
 |error e=>exact hx pins σ _ _ e s' I2 z6
 |ok fl=>
  cases fl with
  |ret u=>
   obtain ⟨v,H',I3,rv,ev,q3⟩:=I2.after z6;subst ev;exact ⟨rv,⟨V.ref (s.heap.objs.size+1),H',I3,rfl,q3⟩⟩
  |next=>exact False.elim z6
  |brk=>exact False.elim z6
  |cont=>exact False.elim z6
theorem AH(M:Mk X.K C f)(F:FnOk X.prog X.w X.K X.mg X.base CX k f fd ps sp)(hr:bI (k+1) X.A)(hg:Gl X x)(hm:X.mg x=some (.ref C))(hb:Binds X.K fd ps ds)(hd:Vals aV ds)(hx:Passes CX X E)
  (ha:PA X (e::es) t) (gB:(x==("__debug__":Str))=false:=by decide) (he:starEach (e::es) X.env=(false,eval e X.env)::starEach es X.env:=by rfl) (dG:(backTo pos (starEach es X.env)).any (·.1)=false:=by rfl):
  PE X (.Call (.Name x p) (e::es) [] pos) (GD C sp aV E t):=by
 intro pins s σ H Q I h;refine wpAny_Call_Name_kw (pY I hg hm ?_ gB);refine PySem.W.callWith_K (h₀:=X.base) I.ok.mod.kin M.kp (thn (ha pos pins s σ H _ I h) λus s1 ⟨vs,H1,I1,r,q⟩=>⟨I1.fZ,?_⟩) he dG;exact yK M F hr hb hd hx I1 r q
end
section
variable {X:Cx} {CX:mD} {k:Nat} {f C:Addr} {fd:FuncData} {ps ks:List Str} {sp:Sp} {E:XK} {x m:Str} {p pos apos Ss:Pos} {e o:Expr} {es:List Expr} {SS:List Keyword} {te ta:TE} {t tk:TA} {nm:Option Str}
variable {g:List Value→List Value→List Value} {gV:List V→List V→List V}
end
structure aJ (N P:List Str) (sc:Scope):Prop where
 kind:sc.kind= .function
 co:sc.isCoroutine=false
 gen:sc.isGenerator=false
 nd:N.Nodup
 pre:N.take P.length=P
 par:∀x∈P,sc.names.lookup x=some .local∨sc.names.lookup x=some .cell
 nofree:∀y∈sc.names,y.2≠ .free
theorem pd{kindOf:Str→Option NameKind}{x:Str}:∀{binds:List (Str×Value)}{m:Str→Option Value},(∀v,(x,v)∉binds)→bindL kindOf binds m x=m x
 | [],_,_=>rfl
 | (n,v)::r,m,h=>by
  unfold bindL;rw [pd λw hw=>h w (fJ _ hw)]
  split
  ·have:x≠n:=by rintro rfl;exact h v fQ
   simp [this]
  ·rfl
theorem oZ{kindOf:Str→Option NameKind}{x:Str}:∀{binds:List (Str×Value)}{m:Str→Option Value},(∀v,(x,v)∉binds)→bindC kindOf binds m x=m x
 | [],_,_=>rfl
 | (n,v)::r,m,h=>by
  unfold bindC;rw [oZ λw hw=>h w (fJ _ hw)]
  split
  ·rfl
  ·have:x≠n:=by rintro rfl;exact h v fQ
   simp [this]
theorem pb{kindOf:Str→Option NameKind}{x:Str}{v:Value}:∀{P:List Str}{vs:List Value}{i:Nat}{m:Str→Option Value},P.Nodup→P[i]? =some x→vs[i]? =some v→kindOf x=some .local→
  bindL kindOf (P.zip vs) m x=some v
 | [],_,_,_,_,h,_,_=>by simp at h
 |_::_,[],_,_,_,_,h,_=>by simp at h
 |p::P,w::vs,0,m,nd,h1,h2,hk=>by
  simp at h1 h2;subst h1;subst h2;show bindL kindOf ((p,w)::P.zip vs) m p=_;unfold bindL;rw [pd λv hv=>(jj.mp nd).1 (List.of_mem_zip hv).1,if_pos hk];simp
 |p::P,w::vs,i+1,m,nd,h1,h2,hk=>by
  show bindL kindOf ((p,w)::P.zip vs) m x=_;unfold bindL;exact pb (i:=i) (jj.mp nd).2 (by simpa using h1) (by simpa using h2) hk
theorem oY{kindOf:Str→Option NameKind}{x:Str}{v:Value}:∀{P:List Str}{vs:List Value}{i:Nat}{m:Str→Option Value},P.Nodup→P[i]? =some x→vs[i]? =some v→kindOf x≠some .local→
  bindC kindOf (P.zip vs) m x=some v
 | [],_,_,_,_,h,_,_=>by simp at h
 |_::_,[],_,_,_,_,h,_=>by simp at h
 |p::P,w::vs,0,m,nd,h1,h2,hk=>by
  simp at h1 h2;subst h1;subst h2;show bindC kindOf ((p,w)::P.zip vs) m p=_;unfold bindC;rw [oZ λv hv=>(jj.mp nd).1 (List.of_mem_zip hv).1,if_neg hk];simp
 |p::P,w::vs,i+1,m,nd,h1,h2,hk=>by
  show bindC kindOf ((p,w)::P.zip vs) m x=_;unfold bindC;exact oY (i:=i) (jj.mp nd).2 (by simpa using h1) (by simpa using h2) hk
def start(N:List Str)(vs:List V):St:=vs.map some++List.replicate (N.length-vs.length) none
def nF(CX:mD)(P:Program)(w:World)(K:PySem.W.Frag)(mg:Str→Option Value)(base:Heap)(N:List Str)(qual:Str)(scope:Scope)(f:Addr)(cd:Value)(A:Around)(outer:List Env)(s:Shared)(H:Hp)(E:XK):Cx where
 prog:=P
 w:=w
 K:=K
 mg:=mg
 base:=base
 A:=A.deeper (envOfC qual scope s.heap.objs.size f cd)
 N:=N
 s₀:=s
 H₀:=H
 env:=envOfC qual scope s.heap.objs.size f cd
 outer:=outer
 stack:=envOfC qual scope s.heap.objs.size f cd::outer
 ex:= []
 calm:=true
 fn:=λ_=>true
 pn:= []
 xe:=λe s'=>wpAny (model P w) (A.deeper (envOfC qual scope s.heap.objs.size f cd)) (leaving (envOfC qual scope s.heap.objs.size f cd) e) (λ_ Gv=>CX outer H s E e Gv) (λe' Gv=>CX outer H s E e' Gv) s'
theorem qW{sc:Scope}{n:Nat}{x:Str}(h:sc.names.lookup x=some .cell):∃c,(cellsFrom n sc.names []).lookup x=some c:=by
 have q:=PySem.W.cellsFrom_some sc.names n [] (.inl h);exact Option.isSome_iff_exists.mp q
theorem vS{CX:mD}{P:Program}{w:World}{K:PySem.W.Frag}{mg:Str→Option Value}{base:Heap}{N ps:List Str}{qual:Str}{scope:Scope}{f:Addr}{cd:Value}{A:Around}{outer:List Env}{s s1:Shared}{H:Hp}{E:XK}{us:List Value}{vs:List V}
  (S:aJ N ps scope) (hd:A.handled=none) (e0:Env0 P w K mg base A outer s H) (hl:vs.length=ps.length) (r:Vals vs us)
  (x:InCallC s s.heap.objs.size (bindL (envOfC qual scope s.heap.objs.size f cd).kindOf (ps.zip us) λ_=>none) (cellsFrom (s.heap.objs.size+1) scope.names []) (bindC (envOfC qual scope s.heap.objs.size f cd).kindOf (ps.zip us) λ_=>none) s1):
  Inv (nF CX P w K mg base N qual scope f cd A outer s H E) [] (start N vs) H s1:=by
 have dG:ps.length≤N.length:=by have:=congrArg List.length S.pre;rw [ji] at this;omega
 obtain ⟨h1,tk,rfl,hk⟩:=x.done;have Ap:∀b:Addr,b∉(nF CX P w K mg base N qual scope f cd A outer s H E).ex:=λb z=>absurd (show b∈([]:List Addr) from z) (by simp)
 refine ⟨⟨e0.mod,S.kind,rfl,rfl,bC _,λy z c h1 h2=>?_,λy hy=>?_,λy c _ h=>?_,λ_=>hd,Around.frames_deeper e0.frames, .inr ⟨rfl,rfl⟩,λb z=>absurd z (Ap b),e0.bs,e0.bsz,λb _ _=>Ap b,λb z=>absurd z (Ap b),e0.funs,e0.frf⟩,
  rfl,e0.bare,Un.kept hk,⟨_,x.toInCall.ns,λi y v h1 h2 h3=>?_⟩,λy c h=>⟨_,x.cell y c h⟩,e0.hok.fresh (bC _),λy c h=>?_,λp hp=>absurd (show p∈([]:List (Addr×Obj)) from hp) (by simp),e0.hok.kept hk,?_⟩
 ·exact name_of_addr x.apart (PySem.mem_of_lookup h1) (PySem.mem_of_lookup h2)
 ·have hy:scope.names.lookup y=some .cell∨scope.names.lookup y=some .free:=hy
  rcases hy with hy|hy
  ·exact qW hy
  ·exact absurd rfl (S.nofree _ (PySem.mem_of_lookup hy))
 ·exact rY (x.above y c (PySem.mem_of_lookup h))
 ·have hi:i<vs.length:=by
   unfold start at h2
   by_cases hi:i<vs.length
   ·exact hi
   ·rw [jh (by simpa using hi)] at h2
    rw [rT] at h2
    split at h2<;>cases h2
  have ha:vs[i]? =some v:=by
   unfold start at h2;rw [iQ (by simpa using hi),cU] at h2
   cases e:vs[i]? with
   |none=>rw [e] at h2;cases h2
   |some a=>rw [e] at h2;cases h2;rfl
  obtain ⟨u,hu,rv⟩:=r.get ha
  have hp:ps[i]? =some y:=by
   rw [←S.pre,xG (by omega)];exact h1
  have Kk:ps.Nodup:=by rw [←S.pre];exact S.nd.sublist (List.take_sublist _ _)
  refine ⟨u,rv,?_⟩
  rcases S.par y (eJ hp) with k|k
  ·exact .inl ⟨k,pb Kk hp hu k⟩
  ·obtain ⟨c,e⟩:=qW (n:=s.heap.objs.size+1) k
   refine .inr ⟨.inl k,c,e,?_⟩;have q:=x.cell y c e;rw [oY Kk hp hu (by show scope.names.lookup y≠_;rw [k];decide)] at q
   exact q
 ·exact e0.hok.fresh (rY (x.above y c (PySem.mem_of_lookup h)))
 ·unfold start
  show _=N.length;rw [cK,aW,qy];omega
theorem Fv{CX:mD}{P:Program}{w:World}{K:PySem.W.Frag}{mg:Str→Option Value}{base:Heap}{k:Nat}{f:Addr}{name qual:Str}{params:Arguments}{body:List Stmt}{scope:Scope}{dV kV doc pm bg ct oc:Value}{an od:Option Addr}
  {uy:Array (Option Value)} {N ps:List Str} {sp:Sp} (lk:K.lookup f=some ⟨oc,od, .func (PySem.W.fnOf name qual params body scope dV kV doc pm an bg ct),uy⟩) (cI:PySem.W.codeIn K bg qual=true) (S:aJ N ps scope)
  (len:∀vs H Q E,sp vs H Q E→vs.length=ps.length)
  (kJ:∀(A:Around)(outer:List Env)(s:Shared)(H:Hp)(vs:List V)(Q:VK)(E:XK),bI k (A.deeper (envOfC qual scope s.heap.objs.size f bg))→sp vs H Q E→
   ∃t,jt (nF CX P w K mg base N qual scope f bg A outer s H E) body t∧t {nx:=λ_ H'=>Q .aT H',rt:=Q} (start N vs) H):
  FnOk P w K mg base CX (k+1) f (PySem.W.fnOf name qual params body scope dV kV doc pm an bg ct) ps sp:=by
 refine ⟨len,λA outer s H args us vs Q E hr e0 hb r uh=>?_⟩;have hl:=len _ _ _ _ uh;have KX:K.In s.heap:=e0.mod.kin.keeps λb o e=>(e0.bs b o e).1;have lim:s.heap.NoLimit:=e0.mod.nolimit.keeps λb o e=>(e0.bs b o e).1
 have FP:∀y∈ps.zip us,scope.names.lookup y.1=some .local∨(scope.names.lookup y.1=some .cell∧((cellsFrom (s.heap.objs.size+1) scope.names []).lookup y.1).isSome=true):=λ⟨n,v⟩ hy=>by
  rcases S.par n (List.of_mem_zip hy).1 with q|q
  ·exact .inl q
  ·exact .inr ⟨q,PySem.W.cellsFrom_some _ _ _ (.inl q)⟩
 refine codeAny_call_function hr.depth (KX _ _ lk) rfl S.co S.gen rfl (PySem.W.codeRec_of KX cI) (hb _ _ _ _ ?_);refine wpAny_newFunctionEnv_cells S.kind FP λenv he s1 x=>?_;subst he;refine ⟨lim.keeps x.toInCall.keep,codeAny_func ?_⟩;obtain ⟨t,ht,hq⟩:=kJ A outer s H vs Q E (hr.deeper _) uh;have I:Inv (nF CX P w K mg base N qual scope f bg A outer s H E) [] (start N vs) H s1:=vS S hr.hd e0 hl r x;refine wpAny_mono (ht [] s1 (start N vs) H _ I hq) (λfl s' hs=>?_) λe s' hs=>hs
 have fin:∀{aI:St}{H':Hp}{v:V}{u:Value},Inv (nF CX P w K mg base N qual scope f bg A outer s H E) [] aI H' s'→RelV v u→Q v H'→CE outer P w H s Q u s':=
  λ {aI H' v u} J rv q=>⟨v,H',J.os,J.bare,J.base,J.hok,rv,q⟩
 cases fl with
 |ret u=>
  obtain ⟨v,aI,H',J,rv,q⟩:=hs;exact fin J rv q
 |next=>
  obtain ⟨aI,H',J,q⟩:=hs;exact fin (v:=V.aT) (u:=Value.none) J rfl q
 |brk=>
  obtain ⟨_,_,_,q⟩:=hs;exact False.elim q
 |cont=>
  obtain ⟨_,_,_,q⟩:=hs;exact False.elim q
section
variable {X:Cx} {x:Str} {p pos:Pos} {e:Expr} {es:List Expr} {t:TA} {id T:String} {r:List V→Hp→VK→Prop}
def Ma(r:List V→Hp→VK→Prop)(t:TA):TE:=λσ H Q=>t σ H λvs H1=>r vs H1 Q
theorem m7(hc:dJ X (.builtin id) r)(hg:Gl X x)(hm:X.mg x=none)(hv:bootBuiltins x=some (.builtin id))(ha:PA X (e::es) t)(hn:x≠"__name__":=by decide)(gB:(x==("__debug__":Str))=false:=by decide)
  (he:starEach (e::es) X.env=(false,eval e X.env)::starEach es X.env:=by rfl) (dG:(backTo pos (starEach es X.env)).any (·.1)=false:=by rfl):PE X (.Call (.Name x p) (e::es) [] pos) (Ma r t):=by
 intro pins s σ H Q I h;refine wpAny_Call_Name_kw (fh I hg hm hv ?_ hn gB);exact PyProof.Rows.callWith_builtin1 (thn (ha pos pins s σ H _ I h) λus s1 ⟨vs,H1,I1,r1,q1⟩=>hc pins s1 σ H1 vs us Q I1 r1 q1) he dG
theorem ql(hc:dJ X (.type T) r)(hg:Gl X x)(hm:X.mg x=none)(hv:bootBuiltins x=some (.type T))(ha:PA X (e::es) t)(hn:x≠"__name__":=by decide)(gB:(x==("__debug__":Str))=false:=by decide)
  (he:starEach (e::es) X.env=(false,eval e X.env)::starEach es X.env:=by rfl) (dG:(backTo pos (starEach es X.env)).any (·.1)=false:=by rfl):PE X (.Call (.Name x p) (e::es) [] pos) (Ma r t):=by
 intro pins s σ H Q I h;refine wpAny_Call_Name_kw (fh I hg hm hv ?_ hn gB);exact PyProof.Rows.callWith_type1 (thn (ha pos pins s σ H _ I h) λus s1 ⟨vs,H1,I1,r1,q1⟩=>hc pins s1 σ H1 vs us Q I1 r1 q1) he dG
end
end L2
namespace HT
open PySem PyProof.Rows
section
open PySem.SeqAt
open PySem.AutoSeq1 (wpAny_loadPart')
open PySem.MeetsSeq PySem.MeetsSeq2 PySem.MeetsSeq3
end
section
variable {prog:Program} {w:World} {A:Around} {E:Value→Shared→Prop} {s:Shared}
theorem zb{t b:Addr}{vs ws:List Value}{Q:Value→Shared→Prop}(ht:IsTup s.heap t vs.toArray)(hb:IsTup s.heap b ws.toArray)(hv:vs≠ [])
  (h1:ws= []→Q (.ref t) s) (h2:ws≠ []→Q (.ref s.heap.objs.size) {s with heap:=s.heap.push {cls:= .type "tuple",data:= .seq (vs++ws).toArray}})
  (oy:vs.length+ws.length≤sizeLine):wpAny (model prog w) A (binaryOp .Add (.ref t) (.ref b)) Q E s:=by
 obtain ⟨⟨cls,dd,data,sl⟩,ho,hc,n,hd⟩:=id ht;obtain ⟨⟨Sm,IE,data2,C4⟩,ug,Jl,n2,hd2⟩:=id hb;simp only at hc hd Jl hd2;subst hc hd Jl hd2;have e:vs.toArray++ws.toArray=(vs++ws).toArray:=by simp
 by_cases hw:ws= []
 ·exact concat_meets ⟨_,ho,rfl⟩ ⟨_,ug,rfl⟩ noFill_tuple_add seq_tuple_add PySem.F.slot_tuple_add PySem.F.entry_tuple_add (PySem.F.args_tuple_add_2 _ _)
   (tuple_addW1 t b vs.toArray ws.toArray n n2 dd IE sl C4 (by simpa using hv) (by simp [hw])) ⟨ho,ug,h1 hw⟩
 ·refine concat_meets ⟨_,ho,rfl⟩ ⟨_,ug,rfl⟩ noFill_tuple_add seq_tuple_add PySem.F.slot_tuple_add PySem.F.entry_tuple_add (PySem.F.args_tuple_add_2 _ _)
   (tuple_addW2 t b vs.toArray ws.toArray n n2 dd IE sl C4 (by simpa using hv) (by simpa using hw) (by rw [dQ,dQ];exact oy)) ⟨ho,ug,?_⟩
  rw [e];exact h2 hw
def br(n d:Nat):Option Int→Nat
 |none=>d
 |some v=>if v<0 then (v+(n:Int)).toNat else min v.toNat n
theorem C3(n d:Nat)(hd:d≤n)(o:Option Int):br n d o≤n:=by
 cases o with
 |none=>exact hd
 |some v=>
  show (if v<0 then (v+(n:Int)).toNat else min v.toNat n)≤n
  by_cases hv:v<0
  ·rw [if_pos hv];omega
  ·rw [if_neg hv];exact Nat.min_le_right _ _
theorem tU(v:Int)(n d:Nat):(if v<0 then max (v+(n:Int)) 0 else min v (n:Int))=((br n d (some v):Nat):Int):=by
 show (if v<0 then max (v+(n:Int)) 0 else min v (n:Int))=(((if v<0 then (v+(n:Int)).toNat else min v.toNat n):Nat):Int)
 by_cases hv:v<0
 ·simp only [if_pos hv];omega
 ·simp only [if_neg hv];omega
theorem tL(lo hi:Option Int)(n:Nat):Builtin.Slice.sliceAdjust lo hi 1 (n:Int)=(((br n 0 lo:Nat):Int),((br n n hi:Nat):Int)):=by
 have h1:¬((1:Int)<0):=by omega
 unfold Builtin.Slice.sliceAdjust;simp only [h1,if_false];refine Prod.ext ?_ ?_
 ·cases lo with
  |none=>rfl
  |some v=>exact tU v n 0
 ·cases hi with
  |none=>rfl
  |some v=>exact tU v n n
theorem uF(i j:Nat):Builtin.Slice.slicePlaces (i:Int) (j:Int) 1=j-i:=by
 unfold Builtin.Slice.slicePlaces;have h1:(1:Int)>0:=by omega
 simp only [h1,if_true,Int.ediv_one]
 split<;>omega
theorem nW{v:Value}{o:Option Int}{Q:Option Int→Shared→Prop}(p:IsPart v o)(h:Q o s):wpAny (model prog w) A (Builtin.Slice.slicePartIndex v) Q E s:=by
 cases p with
 |none=>exact slicePart_none h
 |int i t=>exact slicePart_int h
theorem mf{sl:Addr}{vl vu:Value}{lo hi:Option Int}{n:Nat}{Q:Int×Int×Nat→Shared→Prop}(hs:s.heap.IsSliceOf sl vl vu .none)(pl:IsPart vl lo)(pu:IsPart vu hi)
  (h:Q (((br n 0 lo:Nat):Int),1,br n n hi-br n 0 lo) s):wpAny (model prog w) A (Builtin.Slice.sliceApplied (.ref sl) (pure (n:Int))) Q E s:=by
 obtain ⟨os,sC,Js,yf⟩:=id hs;unfold Builtin.Slice.sliceApplied Builtin.Slice.sliceFields;refine wpAny_bind (wpAny_bind (wpAny_field sC yf (x:=vl) rfl (wpAny_bind (wpAny_field sC yf (x:=vu) rfl (wpAny_bind (wpAny_field sC yf (x:= .none) rfl (wpAny_pure ?_)))))));refine wpAny_bind (slicePart_none ?_);show wpAny _ _ (if ((1:Int)==0)=true then _ else _) _ _ s;rw [if_neg (by decide)]
 refine wpAny_bind (nW pl (wpAny_bind (nW pu (wpAny_bind (wpAny_pure ?_)))));show wpAny _ _ (match Builtin.Slice.sliceAdjust lo hi 1 (n:Int) with| (lo,hi)=>pure (lo,(1:Int),Builtin.Slice.slicePlaces lo hi 1)) _ _ s
 rw [tL lo hi n];show wpAny _ _ (pure (((br n 0 lo:Nat):Int),(1:Int),Builtin.Slice.slicePlaces ((br n 0 lo:Nat):Int) ((br n n hi:Nat):Int) 1)) _ _ s;rw [uF];exact wpAny_pure h
theorem yD(xs:Array Value)(i k:Nat):((List.range k).filterMap λ(m:Nat)=>xs[((i:Int)+(m:Int)*1).toNat]?).toArray=((xs.toList.drop i).take k).toArray:=by
 have e:(λ(m:Nat)=>xs[((i:Int)+(m:Int)*1).toNat]?)=λm=>xs[i+m]? :=by
  funext m
  have:((i:Int)+(m:Int)*1).toNat=i+m:=by omega
  rw [this]
 rw [e]
 have:=pick_run xs i k
 rw [List.filterMap_map] at this;have e2:((λx=>xs[x]?)∘λx=>i+x)=λm=>xs[i+m]? :=rfl;rw [e2] at this;rw [this]
theorem kH{t sl:Addr}{items:Array Value}{vl vu:Value}{lo hi:Option Int}{Q:Value→Shared→Prop}(ht:IsTup s.heap t items)(hs:s.heap.IsSliceOf sl vl vu .none)(pl:IsPart vl lo)(pu:IsPart vu hi)
  (hw:¬(br items.size 0 lo=0∧br items.size items.size hi=items.size))
  (h:Q (.ref s.heap.objs.size) {s with heap:=s.heap.push {cls:= .type "tuple",data:= .seq ((items.toList.drop (br items.size 0 lo)).take (br items.size items.size hi-br items.size 0 lo)).toArray}})
  (oy:items.size≤sizeLine):wpAny (model prog w) A (getItem (.ref t) (.ref sl)) Q E s:=by
 have sE:sizeOk (.seq ((items.toList.drop (br items.size 0 lo)).take (br items.size items.size hi-br items.size 0 lo)).toArray):=by
  show ((items.toList.drop (br items.size 0 lo)).take (br items.size items.size hi-br items.size 0 lo)).toArray.size≤sizeLine;rw [dQ,ji,List.length_drop,fH];omega
 have hj:br items.size items.size hi≤items.size:=C3 _ _ (bC _) hi;obtain ⟨os,sC,Js,yf⟩:=id hs;have Oi:s.TypeIs (.ref sl) "slice":=⟨os,sC,Js⟩;unfold getItem
 try with_reducible refine wpAny_holding ?_
 first|refine wpAny_bind (wpAny_pure ?_) |skip
 refine wpAny_bind (wpAny_sequenceKey ht.typeIs (by decide) ?_)
 refine wpAny_bind (wpAny_callSpecial?_slot (name:=Str.ofString "__getitem__") ht.typeIs PyProof.Rows.slot_tuple_getitem
  (wpAny_call_entry PyProof.Rows.slot_tuple_getitem ht.typeIs entry_tuple_getitem ?_ (args_tuple_getitem _ _)))
 show wpAny _ _ (Builtin.Tuple.tupleItemsOf (.ref t)>>=_) _ _ s;refine wpAny_bind (tupleItemsOf_ ht ?_);refine wpAny_bind (wpAny_typeOf Oi ?_);rw [if_pos (by decide)]
 refine wpAny_bind (mf hs pl pu ?_)
 have FU:¬((((br items.size 0 lo:Nat):Int)==0&&(1:Int)==1&&(br items.size items.size hi-br items.size 0 lo)==items.size)=true):=by
  intro q;rw [qB,qB] at q;have q1:((br items.size 0 lo:Nat):Int)=0:=eq_of_beq q.1.1;have q2:br items.size items.size hi-br items.size 0 lo=items.size:=eq_of_beq q.2;exact hw ⟨by omega,by omega⟩
 show wpAny _ _ (if (((br items.size 0 lo:Nat):Int)==0&&(1:Int)==1&&(br items.size items.size hi-br items.size 0 lo)==items.size)=true then _ else _) _ _ s;rw [if_neg FU,yD]
 first
  |exact wpAny_bind (m:=Builtin.Tuple.tupleExact _) (wpAny_newObj_type (wpAny_pure ⟨_,rfl,wpAny_pure h⟩) sE)
  |exact wpAny_bind (m:=Builtin.Tuple.tupleExact _) (wpAny_newObj_type (wpAny_bind (wpAny_pure (wpAny_pure ⟨_,rfl,wpAny_pure h⟩))) sE)
  |exact wpAny_bind (wpAny_bind (m:=Builtin.Tuple.tupleExact _) (wpAny_newObj_type (wpAny_pure (wpAny_pure ⟨_,rfl,wpAny_pure h⟩)) sE))
  |exact wpAny_bind (wpAny_bind (m:=Builtin.Tuple.tupleExact _) (wpAny_newObj_type (wpAny_pure ⟨_,rfl,wpAny_pure h⟩) sE))
end
end HT
namespace L2
open PySem PySem.Spec PyProof.Rows
abbrev TO:=St→Hp→(Option Int→Hp→Prop)→Prop
def PO(X:Cx)(e:Option Expr)(t:TO):Prop:=
 ∀(pins:List (Addr×Obj))(s:Shared)(σ:St)(H:Hp)(Q:Option Int→Hp→Prop),Inv X pins σ H s→t σ H Q→
  wpAny (model X.prog X.w) X.A (evalPart e X.env) (λu s'=>∃o H',Inv X pins σ H' s'∧IsPart u o∧Q o H') X.xe s
def Bn:TO:=λ_ H Q=>Q none H
def GH(t:TE):TO:=λσ H Q=>t σ H λx H1=>∃i,x= .int i∧Q (some i) H1
section
variable {X:Cx} {e:Expr} {te:TE} {lo hi:Option Expr} {tl th:TO} {pos p2:Pos}
theorem AN:PO X none Bn:=by
 intro pins s σ H Q I h;rw [evalPart_none];exact wpAny_pure ⟨none,H,I, .none,h⟩
theorem AO(h:PE X e te):PO X (some e) (GH te):=by
 intro pins s σ H Q I hw;rw [evalPart_some];refine thn (h pins s σ H _ I hw) λu s1 ⟨x,H1,I1,r1,q1⟩=>?_;obtain ⟨i,rfl,q⟩:=q1;obtain ⟨t,rfl⟩:=r1;exact ⟨some i,H1,I1, .int i t,q⟩
def ve(X:Cx)(r:V→Option Int→Option Int→Hp→VK→Prop):Prop:=
 ∀(pins:List (Addr×Obj))(s:Shared)(σ:St)(H:Hp)(x:V)(v vl vu:Value)(lo hi:Option Int)(sl:Addr)(Q:VK),Inv X pins σ H s→RelV x v→s.heap.IsSliceOf sl vl vu .none→IsPart vl lo→IsPart vu hi→r x lo hi H Q→
  ∃T id,typeLookup (.type T) "__getitem__"=pure (some (.builtin id))∧s.TypeIs v T∧wpAny (model X.prog X.w) X.A (getItem v (.ref sl)) (EP X pins σ Q) X.xe s
theorem ve.or{r r':V→Option Int→Option Int→Hp→VK→Prop}(h:ve X r)(h':ve X r'):ve X (λx lo hi H Q=>r x lo hi H Q∨r' x lo hi H Q):=by
 intro pins s σ H x v vl vu lo hi sl Q I rx hs pl pu q
 rcases q with q|q
 ·exact h pins s σ H x v vl vu lo hi sl Q I rx hs pl pu q
 ·exact h' pins s σ H x v vl vu lo hi sl Q I rx hs pl pu q
def Sd(r:V→Option Int→Option Int→Hp→VK→Prop)(te:TE)(tl th:TO):TE:=λσ H Q=>te σ H λx H1=>tl σ H1 λl H2=>th σ H2 λu H3=>r x l u H3 Q
theorem yC{r:V→Option Int→Option Int→Hp→VK→Prop}(hr:ve X r)(he:PE X e te)(hl:PO X lo tl)(hu:PO X hi th):PE X (.Subscript e (.Slice lo hi none p2) pos) (Sd r te tl th):=by
 intro pins s σ H Q I h;refine Subscript_ (thn (he pins s σ H _ I h) λv s1 ⟨x,H1,I1,r1,q1⟩=>?_);refine wpAny_Slice (thn (hl pins s1 σ H1 _ I1 q1) λvl s2 ⟨l,H2,I2,pl,q2⟩=>thn (hu pins s2 σ H2 _ I2 q2) λvu s3 ⟨u,H3,I3,pu,q3⟩=>?_);rw [evalPart_none];refine wpAny_pure ?_;have I4:Inv X pins σ H3 {s3 with heap:=s3.heap.push {cls:= .type "slice",data:= .fields #[vl,vu, .none]}}:=I3.kept (t':=s3.toks) λb ob q=>Heap.get?_push_of_some _ q
 obtain ⟨T,id,hT,ht,hg⟩:=hr pins {s3 with heap:=s3.heap.push {cls:= .type "slice",data:= .fields #[vl,vu, .none]}} σ H3 x v vl vu l u s3.heap.objs.size Q I4 r1 (Heap.IsSliceOf.new ..) pl pu q3
 show wpAny (model X.prog X.w) X.A (subscriptTail e (.Slice lo hi none p2) v (.ref s3.heap.objs.size)) (EP X pins σ Q) X.xe {s3 with heap:=s3.heap.push {cls:= .type "slice",data:= .fields #[vl,vu, .none]}}
 exact tail_any (ops:= [.ref s3.heap.objs.size,v]) ht hT hg (by with_unfolding_all rfl)
def nE(xs:List V)(lo hi:Option Int):List V:=(xs.drop (HT.br xs.length 0 lo)).take (HT.br xs.length xs.length hi-HT.br xs.length 0 lo)
theorem lB(xs:List V)(lo hi:Option Int):(nE xs lo hi).length≤xs.length:=by
 unfold nE;rw [ji,List.length_drop];omega
def LF(K:PySem.W.Frag):V→Option Int→Option Int→Hp→VK→Prop:=λx lo hi H Q=>∃a xs,x= .ref a∧ed K H a xs∧
 ¬(HT.br xs.length 0 lo=0∧HT.br xs.length xs.length hi=xs.length)∧∀p,H p=none→Q (.ref p) (upd H p (.tup (nE xs lo hi)))
theorem C5:ve X (LF X.K):=by
 intro pins s σ H x v vl vu lo hi sl Q I rx hs pl pu h;obtain ⟨a,xs,rfl,hx,hw,q⟩:=h;cases rx;obtain ⟨its,r,ht,hz⟩:=I.tuple hx;have hlen:its.toArray.size=xs.length:=by rw [dQ];exact r.length.symm
 refine ⟨"tuple",_,PyProof.Rows.slot_tuple_getitem.lookup,ht.typeIs,?_⟩;refine HT.kH ht hs pl pu (by rw [hlen];exact hw) ?_ (by rw [hlen];exact hz)
 rw [hlen];refine ⟨.ref s.heap.objs.size,_,I.laid (t':=s.toks) (o:= .tup (nE xs lo hi)) (λb ob q=>Heap.get?_push_of_some _ q) (bC _) ?_,rfl,q _ (I.hok.fresh (bC _))⟩;exact ⟨jU (lB xs lo hi) hz,_,(r.drop (HT.br xs.length 0 lo)).take (HT.br xs.length xs.length hi-HT.br xs.length 0 lo),IsTup.new _ _⟩
def Gr(K:PySem.W.Frag):R2:=λx y H Q=>∃a b xs ys,x= .ref a∧y= .ref b∧ed K H a xs∧ed K H b ys∧xs≠ []∧xs.length+ys.length≤sizeLine∧
 (ys= []→Q (.ref a) H)∧(ys≠ []→∀p,H p=none→Q (.ref p) (upd H p (.tup (xs++ys))))
theorem Vals.p8{xs:List V}{us:List Value}(r:Vals xs us):us= []↔xs= []:=by
 cases r with
 |nil=>simp
 |cons _ _=>simp
theorem Ay:OpR X (binaryOp .Add) (Gr X.K):=by
 intro pins s σ H x y v u Q I rx ry h;obtain ⟨a,b,xs,ys,rfl,rfl,ha,hb,hx,hz,q1,q2⟩:=h;cases rx;cases ry;obtain ⟨its,r1,p1,_⟩:=I.tuple ha;obtain ⟨nM,r2,p2,_⟩:=I.tuple hb;refine HT.zb p1 p2 (λz=>hx (r1.p8.mp z)) (λz=>⟨.ref a,H,I,rfl,q1 (r2.p8.mp z)⟩) (λz=>?_) (by rw [←r1.length,←r2.length];exact hz)
 refine ⟨.ref s.heap.objs.size,_,I.laid (t':=s.toks) (o:= .tup (xs++ys)) (λb ob q=>Heap.get?_push_of_some _ q) (bC _) ?_,rfl,q2 (λw=>z (r2.p8.mpr w)) _ (I.hok.fresh (bC _))⟩;exact ⟨by rw [cK];exact hz,_,r1.append r2,IsTup.new _ _⟩
end
def ee(n:Nat)(i:Int):Option Nat:=if 0≤i then (if i<n then some i.toNat else none) else if-(n:Int)≤i then some (i+n).toNat else none
def cX{α:Type}(xs:List α)(i:Int):Option α:=(ee xs.length i).bind λj=>xs[j]?
theorem uk{n:Nat}{i:Int}{j:Nat}(h:ee n i=some j):seqIndex? i n=some j∧j<n∧-(n:Int)≤i∧i<n:=by
 unfold ee at h
 by_cases h0:0≤i
 ·rw [if_pos h0] at h
  by_cases h1:i<n
  ·rw [if_pos h1] at h
   have e:i.toNat=j:=Option.some.inj h;exact ⟨by rw [seqIndex_of h0 h1,e],by omega,by omega,h1⟩
  ·rw [if_neg h1] at h;cases h
 ·rw [if_neg h0] at h
  by_cases h1: -(n:Int)≤i
  ·rw [if_pos h1] at h
   have e:(i+n).toNat=j:=Option.some.inj h;exact ⟨by rw [seqIndex_neg (by omega) h1,e],by omega,h1,by omega⟩
  ·rw [if_neg h1] at h;cases h
theorem tM{α:Type}{xs:List α}{i:Int}{v:α}(h:cX xs i=some v):∃j,seqIndex? i xs.length=some j∧xs[j]? =some v∧j<xs.length∧-(xs.length:Int)≤i∧i<xs.length:=by
 unfold cX at h;cases e:ee xs.length i with
 |none=>rw [e] at h;cases h
 |some j=>
  rw [e] at h;obtain ⟨h1,h2,h3,h4⟩:=uk e;exact ⟨j,h1,h,h2,h3,h4⟩
theorem tN{α:Type}{xs:List α}{j:Nat}{v:α}(h:xs[j]? =some v):cX xs (j:Int)=some v:=by
 have hj:j<xs.length:=(eo.mp h).1
 have e:ee xs.length (j:Int)=some j:=by
  unfold ee;rw [if_pos (by omega),if_pos (by omega)];simp
 unfold cX;rw [e];exact h
def ju(b:Expr):Prop:=∀o i,subscripted b false o i=operate [o,i] (getItem o i)
def u9(X:Cx)(r:R2):Prop:=
 ∀(value slice:Expr)(pins:List (Addr×Obj))(s:Shared)(σ:St)(H:Hp)(x y:V)(v u:Value)(Q:VK),Inv X pins σ H s→RelV x v→RelV y u→r x y H Q→
  subscripted slice false v u=operate [v,u] (getItem v u)→wpAny (model X.prog X.w) X.A (subscriptTail value slice v u) (EP X pins σ Q) X.xe s
def Bx(X:Cx)(id:String)(r:V→List V→Hp→VK→Prop):Prop:=
 ∀(pins:List (Addr×Obj))(s:Shared)(σ:St)(H:Hp)(x:V)(xs:List V)(v:Value)(us:List Value)(Q:VK),Inv X pins σ H s→RelV x v→Vals xs us→r x xs H Q→
  wpAny (model X.prog X.w) X.A (call (.builtin id) (v::us)) (EP X pins σ Q) X.xe s
section
variable {X:Cx} {a b:Expr} {ta tb:TE} {pos:Pos}
theorem u9.or{r r':R2}(h:u9 X r)(h':u9 X r'):u9 X (λx y H Q=>r x y H Q∨r' x y H Q):=by
 intro value slice pins s σ H x y v u Q I rx ry q hs
 rcases q with q|q
 ·exact h value slice pins s σ H x y v u Q I rx ry q hs
 ·exact h' value slice pins s σ H x y v u Q I rx ry q hs
theorem sW{r:R2}(hr:u9 X r)(ha:PE X a ta)(hb:PE X b tb)(hs:ju b):PE X (.Subscript a b pos) (Bo r ta tb):=by
 intro pins s σ H Q I h;exact Subscript_ (y8 ha hb I h λv u s2 x y H2 I2 rx ry q=>hr a b pins s2 σ H2 x y v u Q I2 rx ry q (hs _ _))
def Ly(K:PySem.W.Frag):R2:=λx y H Q=>∃p xs i v,x= .ref p∧y= .int i∧bE K H p xs∧cX xs i=some v∧Q v H
def Lz(K:PySem.W.Frag):R2:=λx y H Q=>∃p xs i v,x= .ref p∧y= .int i∧ed K H p xs∧cX xs i=some v∧Q v H
theorem lO:u9 X (Ly X.K):=by
 intro value slice pins s σ H x y v u Q I rx ry h hs;obtain ⟨p,xs,i,z,rfl,rfl,hq,he,q⟩:=h;cases rx;obtain ⟨t,rfl⟩:=ry;obtain ⟨its,r,pl,hz⟩:=I.list hq;obtain ⟨j,h1,h2,h3,h4,h5⟩:=tM he;obtain ⟨w,ew,A5⟩:=r.get h2;have hl:=r.length;have hn:=j5;have fin:EP X pins σ Q w s:=⟨z,H,I,A5,q⟩
 by_cases h0:0≤i
 ·have hj:i.toNat=j:=by
   rw [seqIndex_of h0 h5] at h1;exact Option.some.inj h1
  exact item_listR pl.isList h0 (by omega) (by rw [hj];simpa using ew) fin hs
 ·have hj:(i+(its.toArray.size:Int)).toNat=j:=by
   rw [seqIndex_neg (by omega) h4] at h1
   rw [dQ,←hl];exact Option.some.inj h1
  exact subscriptTail_builtinR (x:=w) pl.isList.typeIs slot_list_getitem.lookup
   (wpAny_getItem_list_neg (Q:=λr s'=>r=w∧EP X pins σ Q r s') pl.isList (by omega) (by rw [dQ]<;>omega) (by omega) (by rw [hj];simpa using ew) ⟨rfl,fin⟩) hs
theorem Ca:u9 X (Lz X.K):=by
 intro value slice pins s σ H x y v u Q I rx ry h hs;obtain ⟨p,xs,i,z,rfl,rfl,hq,he,q⟩:=h;cases rx;obtain ⟨t,rfl⟩:=ry;obtain ⟨its,r,pl,hz⟩:=I.tuple hq;obtain ⟨j,h1,h2,h3,h4,h5⟩:=tM he;obtain ⟨w,ew,A5⟩:=r.get h2;have hl:=r.length;have hn:=j5;have fin:EP X pins σ Q w s:=⟨z,H,I,A5,q⟩
 exact subscriptTail_builtinR (x:=w) pl.typeIs slot_tuple_getitem.lookup
  (getItem_tuple (j:=j) (Q:=λr s'=>r=w∧EP X pins σ Q r s') pl (by omega) (by omega) (by rw [dQ,←hl];exact h1) (by simpa using ew) ⟨rfl,fin⟩) hs
theorem ur(its:List Value)(n j:Nat)(u:Value):Obj.mapSeq (·.setIfInBounds j u) {cls:= .type "list",data:= .seq its.toArray n}={cls:= .type "list",data:= .seq (its.set j u).toArray n}:=by
 simp [Obj.mapSeq]
theorem Inv.lst{pins:List (Addr×Obj)}{σ:St}{H:Hp}{s:Shared}{p:Addr}{xs:List V}(I:Inv X pins σ H s)(h:H p=some (.lst xs)):
  ∃(its:List Value)(n:Nat),Vals xs its∧s.heap.get? p=some {cls:= .type "list",data:= .seq its.toArray n}∧xs.length≤sizeLine:=by
 obtain ⟨z,its,n,r,e⟩:=I.hok p _ h;exact ⟨its,n,r,e,z⟩
theorem Inv.Cm{pins:List (Addr×Obj)}{σ:St}{H:Hp}{s:Shared}{p:Addr}{xs ys:List V}{its its':List Value}{n n':Nat}{f:Obj→Obj}(I:Inv X pins σ H s)(h:H p=some (.lst xs))
  (ho:s.heap.get? p=some {cls:= .type "list",data:= .seq its.toArray n}) (hf:f {cls:= .type "list",data:= .seq its.toArray n}={cls:= .type "list",data:= .seq its'.toArray n'}) (r:Vals ys its') (hz:ys.length≤sizeLine) (t:Nat):
  Inv X pins σ (upd H p (.lst ys)) {s with heap:=s.heap.update p f,toks:=t}:=by
 have e:(s.heap.update p f).get? p=some {cls:= .type "list",data:= .seq its'.toArray n'}:=by
  rw [Heap.get?_update_self f ho (by rw [hf]<;>rfl),hf]
 refine I.write (x:=p) (e:=p) (by rw [h];trivial) (.inl rfl) (λb u hb q=>(Heap.get?_update_other _ _ (Ne.symm hb)).trans q) ⟨_,e⟩ ?_
 exact ⟨hz,its',n',r,e⟩
def Gu:V→V→V→Hp→(Hp→Prop)→Prop:=λo i v H Q=>∃p xs k j,o= .ref p∧i= .int k∧H p=some (.lst xs)∧ee xs.length k=some j∧Q (upd H p (.lst (xs.set j v)))
theorem set_list:Dq X Gu:=by
 intro pins s σ H o i v ov iv u Q I ro ri rv h;obtain ⟨p,xs,k,j,rfl,rfl,hp,hj,q⟩:=h;cases ro;obtain ⟨t,rfl⟩:=ri;obtain ⟨its,n,r,ho,hz⟩:=I.lst hp;obtain ⟨h1,h2,h3,h4⟩:=uk hj;have hl:=r.length;have hn:=j5
 have I':Inv X pins σ (upd H p (.lst (xs.set j v))) {s with heap:=s.heap.update p (Obj.mapSeq (·.setIfInBounds j u))}:=
  I.Cm hp ho (ur its n j u) (r.set rv j) (by rw [eM];exact hz) s.toks
 by_cases h0:0≤k
 ·have hk:k.toNat=j:=by
   rw [seqIndex_of h0 h4] at h1;exact Option.some.inj h1
  exact PySem.W.ki_setAt ho h0 (by omega) (by rw [dQ,←hl];exact h4) (by rw [hk];exact ⟨_,I',q⟩)
 ·have hk:(k+(its.toArray.size:Int)).toNat=j:=by
   rw [seqIndex_neg (by omega) h3] at h1
   rw [dQ,←hl];exact Option.some.inj h1
  exact PySem.W.ki_setBack ho (by omega) (by rw [dQ,←hl];exact h3) (by omega) (by rw [hk];exact ⟨_,I',q⟩)
theorem qQ(lo hi:Option Int)(n:Nat):(sliceBounds lo hi none n).1=((HT.br n 0 lo:Nat):Int)∧(sliceBounds lo hi none n).2.1=((HT.br n n hi:Nat):Int)∧(sliceBounds lo hi none n).2.2=1:=by
 refine ⟨?_,?_,rfl⟩
 ·cases lo with
  |none=>simp [sliceBounds,HT.br]
  |some i=>
   simp only [sliceBounds,HT.br,Option.getD_none,show (1:Int)>0 by decide,if_true]
   by_cases h:i<0
   ·simp only [h,if_true]<;>omega
   ·simp only [h,if_false]<;>omega
 ·cases hi with
  |none=>simp [sliceBounds,HT.br]
  |some i=>
   simp only [sliceBounds,HT.br,Option.getD_none,show (1:Int)>0 by decide,if_true]
   by_cases h:i<0
   ·simp only [h,if_true]<;>omega
   ·simp only [h,if_false]<;>omega
theorem qv(its:List Value)(lo hi:Option Int):slicePick its.toArray lo hi none=((its.drop (HT.br its.length 0 lo)).take (HT.br its.length its.length hi-HT.br its.length 0 lo)).toArray:=by
 obtain ⟨h1,h2,h3⟩:=qQ lo hi its.toArray.size;unfold slicePick;rw [h1,h2,h3];simp only [sliceRange_one,pick_run,dQ]<;>rfl
def LD(K:PySem.W.Frag):V→Option Int→Option Int→Hp→VK→Prop:=λx lo hi H Q=>∃a xs,x= .ref a∧bE K H a xs∧∀p,H p=none→Q (.ref p) (upd H p (.lst (nE xs lo hi)))
theorem A8:ve X (LD X.K):=by
 intro pins s σ H x v vl vu lo hi sl Q I rx hs pl pu h;obtain ⟨a,xs,rfl,hx,q⟩:=h;cases rx;obtain ⟨its,r,ht,hz⟩:=I.list hx;have hlen:=r.length;refine ⟨"list",_,slot_list_getitem.lookup,ht.isList.typeIs,?_⟩;refine wpAny_getItem_list_slice ht.isList hs pl pu .none (by simp) ?_ (by rw [dQ]<;>omega)
 rw [qv,←hlen];refine ⟨.ref s.heap.objs.size,_,I.laid (t':=s.toks) (o:= .lst (nE xs lo hi)) (λb ob q=>Heap.get?_push_of_some _ q) (bC _) ?_,rfl,q _ (I.hok.fresh (bC _))⟩;exact ⟨jU (lB xs lo hi) hz,_,0,(r.drop (HT.br xs.length 0 lo)).take (HT.br xs.length xs.length hi-HT.br xs.length 0 lo),Heap.get?_push_size _ rfl⟩
def eY:V→Bool
 | .aT=>true
 | .bl _=>true
 | .int _=>true
 | .str _=>true
 |_=>false
def pK:V→V→Bool
 | .aT, .aT=>true
 | .bl a, .bl b=>a==b
 | .bl a, .int b=>(if a then 1 else 0)==b
 | .int a, .bl b=>a==(if b then 1 else 0)
 | .int a, .int b=>a==b
 | .str a, .str b=>a==b
 |_,_=>false
theorem BO{A:Around}{s:Shared}{y x:V}{u v:Value}(ry:RelV y u)(rx:RelV x v)(fy:eY y=true)(fx:eY x=true):SeqAt.EqAt A s u v (pK y x):=by
 cases y with
 |aT=>
  cases ry;cases x with
  |aT=>cases rx;exact SeqAt.EqAt.same _
  |bl b=>cases rx;exact SeqAt.EqAt.none_bool b
  |int b=>obtain ⟨t,rfl⟩:=rx;exact SeqAt.EqAt.none_int b t
  |str b=>obtain ⟨t,rfl⟩:=rx;exact SeqAt.EqAt.none_str b t
  |_=>exact absurd (show false=true from fx) dP
 |bl a=>
  cases ry;cases x with
  |aT=>cases rx;exact SeqAt.EqAt.bool_none a
  |bl b=>cases rx;exact SeqAt.EqAt.bool_bool a b
  |int b=>obtain ⟨t,rfl⟩:=rx;exact SeqAt.EqAt.bool_int a b t
  |str b=>obtain ⟨t,rfl⟩:=rx;exact SeqAt.EqAt.bool_str a b t
  |_=>exact absurd (show false=true from fx) dP
 |int a=>
  obtain ⟨t',rfl⟩:=ry;cases x with
  |aT=>cases rx;exact SeqAt.EqAt.int_none a t'
  |bl b=>cases rx;exact SeqAt.EqAt.int_bool a t' b
  |int b=>obtain ⟨t,rfl⟩:=rx;exact SeqAt.EqAt.int_int a t' b t
  |str b=>obtain ⟨t,rfl⟩:=rx;exact SeqAt.EqAt.int_str a t' b t
  |_=>exact absurd (show false=true from fx) dP
 |str a=>
  obtain ⟨t',rfl⟩:=ry;cases x with
  |aT=>cases rx;exact SeqAt.EqAt.str_none a t'
  |bl b=>cases rx;exact SeqAt.EqAt.str_bool a t' b
  |int b=>obtain ⟨t,rfl⟩:=rx;exact SeqAt.EqAt.str_int a t' b t
  |str b=>obtain ⟨t,rfl⟩:=rx;exact SeqAt.EqAt.str_str a t' b t
  |_=>exact absurd (show false=true from fx) dP
 |_=>exact absurd (show false=true from fy) dP
def kg(x:V)(u:Value):Bool:=match u with
 | .none=>pK .aT x
 | .bool b=>pK (.bl b) x
 | .int i _=>pK (.int i) x
 | .str z _=>pK (.str z) x
 |_=>false
theorem oK{x y:V}{u:Value}(r:RelV y u)(f:eY y=true):kg x u=pK y x:=by
 cases y with
 |aT=>cases r;rfl
 |bl b=>cases r;rfl
 |int i=>obtain ⟨t,rfl⟩:=r;rfl
 |str z=>obtain ⟨t,rfl⟩:=r;rfl
 |_=>exact absurd (show false=true from f) dP
theorem jv{x:V}:∀{xs:List V}{us:List Value},Vals xs us→xs.all eY=true→us.any (kg x)=xs.any λy=>pK y x
 |_,_, .nil,_=>rfl
 |y::xs,u::us, .cons r t,f=>by
  rw [List.all_cons,qB] at f;rw [List.any_cons,List.any_cons,oK r f.1,jv t f.2]
theorem gj{A:Around}{s:Shared}{x:V}{v:Value}(rx:RelV x v)(fx:eY x=true):∀{xs:List V}{us:List Value},Vals xs us→xs.all eY=true→∀u∈us,SeqAt.EqAt A s u v (kg x u)
 |_,_, .nil,_=>λu hu=>by cases hu
 |y::xs,u::us, .cons r t,f=>λu' hu=>by
  rw [List.all_cons,qB] at f
  rcases cV.mp hu with rfl|hu
  ·rw [oK r f.1];exact BO r rx f.1 fx
  ·exact gj rx fx t f.2 u' hu
def B8(x:V)(xs:List V):Bool:=xs.any λy=>pK y x
def Gs(K:PySem.W.Frag)(neg:Bool):R2:=λx y H Q=>∃p xs,y= .ref p∧(bE K H p xs∨ed K H p xs)∧eY x=true∧xs.all eY=true∧Q (.bl (if neg then !B8 x xs else B8 x xs)) H
theorem wo:OpR X (compareOp .In) (Gs X.K false):=by
 intro pins s σ H x y v u Q I rx ry h;obtain ⟨p,xs,rfl,hq,fx,fs,q⟩:=h;cases ry
 rcases hq with hq|hq
 ·obtain ⟨its,r,pl,hz⟩:=I.list hq
  refine SeqAt.in_listAt (kg x) pl.isList (λw hw=>gj rx fx r fs w (by simpa using hw)) ⟨.bl _,H,I,rfl,?_⟩
  rw [show its.toArray.any (kg x)=its.any (kg x) by simp,jv r fs]
  exact q
 ·obtain ⟨its,r,pl,hz⟩:=I.tuple hq
  refine SeqAt.in_tupleAt (kg x) pl (λw hw=>gj rx fx r fs w (by simpa using hw)) ⟨.bl _,H,I,rfl,?_⟩
  rw [show its.toArray.any (kg x)=its.any (kg x) by simp,jv r fs]
  exact q
theorem qP:OpR X (compareOp .NotIn) (Gs X.K true):=by
 intro pins s σ H x y v u Q I rx ry h;obtain ⟨p,xs,rfl,hq,fx,fs,q⟩:=h;cases ry
 rcases hq with hq|hq
 ·obtain ⟨its,r,pl,hz⟩:=I.list hq
  refine SeqAt.notIn_listAt (kg x) pl.isList (λw hw=>gj rx fx r fs w (by simpa using hw)) ⟨.bl _,H,I,rfl,?_⟩
  rw [show its.toArray.any (kg x)=its.any (kg x) by simp,jv r fs]
  exact q
 ·obtain ⟨its,r,pl,hz⟩:=I.tuple hq
  refine SeqAt.notIn_tupleAt (kg x) pl (λw hw=>gj rx fx r fs w (by simpa using hw)) ⟨.bl _,H,I,rfl,?_⟩
  rw [show its.toArray.any (kg x)=its.any (kg x) by simp,jv r fs]
  exact q
theorem qJ:dJ X (.builtin "len") (λxs H Q=>∃p ys,xs= [.ref p]∧(bE X.K H p ys∨ed X.K H p ys)∧Q (.int ys.length) H):=by
 intro pins s σ H xs us Q I r h;obtain ⟨p,ys,rfl,hq,q⟩:=h;obtain ⟨u,rfl,rx⟩:=vals1 r;cases rx;have hn:=j5
 rcases hq with hq|hq
 ·obtain ⟨its,r',pl,hz⟩:=I.list hq
  have hlen:=r'.length;exact Calls.call_len_list pl.isList (by simp only [dQ]<;>omega) ⟨.int ys.length,H,I.tok _,⟨s.toks+1,by rw [dQ,hlen]⟩,q⟩
 ·obtain ⟨its,r',pl,hz⟩:=I.tuple hq
  have hlen:=r'.length;exact len_tuple pl (by simp only [dQ]<;>omega) ⟨.int ys.length,H,I.tok _,⟨s.toks+1,by rw [dQ,hlen]⟩,q⟩
theorem kj:dJ X (.type "list") (λxs H Q=>∃p ys,xs= [.ref p]∧(bE X.K H p ys∨ed X.K H p ys)∧∀l,H l=none→Q (.ref l) (upd H l (.lst ys))):=by
 intro pins s σ H xs us Q I r h;obtain ⟨p,ys,rfl,hq,q⟩:=h;obtain ⟨u,rfl,rx⟩:=vals1 r;cases rx
 have fin:∀(its:List Value),Vals ys its→ys.length≤sizeLine→∀(h':Heap)(c':Nat),(∀b o',s.heap.get? b=some o'→h'.get? b=some o')→
   h'.get? s.heap.objs.size=some {cls:= .type "list",dict:=none,data:= .seq its.toArray c',slots:= #[]}→EP X pins σ Q (.ref s.heap.objs.size) {s with heap:=h'}:=λits r' hz h' c' kp e=>
  ⟨.ref s.heap.objs.size,_,I.laid (t':=s.toks) kp (bC _) (show bR X.prog X.w _ h' _ (.lst ys) from ⟨hz,its,c',r',e⟩),rfl,q _ (I.hok.fresh (bC _))⟩
 rcases hq with hq|hq
 ·obtain ⟨its,r',pl,hz⟩:=I.list hq
  have hlen:=r'.length;obtain ⟨o,ho,hc,n,hd⟩:=pl.isList;exact call_list_seq p (.inl rfl) ho hc hd (λh' c' kp e=>fin its r' hz h' c' kp e) (by simp only [dQ]<;>omega)
 ·obtain ⟨its,r',pl,hz⟩:=I.tuple hq
  have hlen:=r'.length;obtain ⟨o,ho,hc,n,hd⟩:=pl;exact call_list_seq p (.inr rfl) ho hc hd (λh' c' kp e=>fin its r' hz h' c' kp e) (by simp only [dQ]<;>omega)
def Di(K:PySem.W.Frag)(T:String)(x:V)(H:Hp):Prop:=match x with
 | .str _=>T="str"
 | .int _=>T="int"
 | .ref p=>(T="list"∧∃xs,bE K H p xs)∨(T="tuple"∧∃o,K.lookup p=some o∧o.cls= .type "tuple"∧o.dict=none)∨
   (T="dict"∧((∃cB,H p=some (.dK cB))∨∃cB,H p=some (.dT cB)))∨(T="set"∧∃S n,H p=some (.set S n))
 |_=>False
theorem xD{pins:List (Addr×Obj)}{σ:St}{H:Hp}{s:Shared}{T:String}{x:V}{v:Value}(I:Inv X pins σ H s)(r:RelV x v)(ty:Di X.K T x H):
  s.TypeIs v T∧∀a,v= .ref a→∃ob,s.heap.get? a=some ob∧ob.dict=none:=by
 cases x with
 |str z=>
  obtain ⟨t,rfl⟩:=r;cases (show T="str" from ty);exact ⟨typeIs_str s z t,λ_ e=>nomatch e⟩
 |int i=>
  obtain ⟨t,rfl⟩:=r;cases (show T="int" from ty);exact ⟨typeIs_int s i t,λ_ e=>nomatch e⟩
 |ref p=>
  cases r
  rcases ty with ⟨rfl,xs,hq⟩ | ⟨rfl,o,hk,hc,hd⟩ | ⟨rfl,hk⟩ | ⟨rfl,S,n,hk⟩
  ·obtain ⟨its,_,pl,_⟩:=I.list hq
   refine ⟨pl.isList.typeIs,λa e=>?_⟩;cases e;obtain ⟨o,n,e,c,hd,_⟩:=pl;exact ⟨o,e,hd⟩
  ·refine ⟨⟨o,I.fZ p o hk,hc⟩,λa e=>?_⟩
   cases e;exact ⟨o,I.fZ _ o hk,hd⟩
  ·have z:∃o,s.heap.get? p=some o∧o.ExactDict:=by
    rcases hk with ⟨cB,hk⟩ | ⟨cB,hk⟩
    ·obtain ⟨_,_,_,_,o,_,_,e,ex,_⟩:=I.hok p _ hk
     exact ⟨o,e,ex⟩
    ·obtain ⟨_,_,_,_,o,_,_,e,ex,_⟩:=I.hok p _ hk
     exact ⟨o,e,ex⟩
   obtain ⟨o,e,ex⟩:=z;refine ⟨⟨o,e,ex.1⟩,λa e2=>?_⟩;cases e2;exact ⟨o,e,ex.2.1⟩
  ·obtain ⟨o,_,_,_,e,ex,_⟩:=I.hok p _ hk
   refine ⟨⟨o,e,ex.1⟩,λa e2=>?_⟩;cases e2;exact ⟨o,e,ex.2.1⟩
 |_=>exact False.elim ty
def L8(K:PySem.W.Frag)(T:String)(r:V→List V→Hp→VK→Prop)(to:TE):TE:=λσ H Q=>to σ H λx H1=>Di K T x H1∧r x [] H1 Q
def Sa(K:PySem.W.Frag)(T:String)(r:V→List V→Hp→VK→Prop)(to:TE)(t:TA):TE:=λσ H Q=>to σ H λx H1=>Di K T x H1∧t σ H1 λxs H2=>r x xs H2 Q
variable {o e:Expr} {es:List Expr} {to:TE} {t:TA} {name:Str} {apos aP:Pos} {T id:String} {r:V→List V→Hp→VK→Prop}
theorem xq(pa:PlainAttrs T)(slot:Slot T name id)(z7:typeOf (.builtin id)=pure (.type "method_descriptor"))(hm:Bx X id r)(ho:PE X o to)
  (cw:attributeBase o name X.env (eval o X.env)=eval o X.env:=by rfl) (cg:(apos.endLine==aP.line)=true:=by rfl):PE X (.Call (.Attribute o name apos) [] [] aP) (L8 X.K T r to):=by
 intro pins s σ H Q I h;refine wpAny_Call_method0_late cw cg (thn (ho pins s σ H _ I h) λv s1 ⟨x,H1,I1,r1,ty,q1⟩=>?_);obtain ⟨h1,h2⟩:=xD I1 r1 ty;exact ⟨T,id,pa,slot,z7,h1,h2,Calls.callWith_builtin rfl (PySem.evalArgs_none (hm pins s1 σ H1 x [] v [] Q I1 r1 .nil q1))⟩
theorem sV(pa:PlainAttrs T)(slot:Slot T name id)(z7:typeOf (.builtin id)=pure (.type "method_descriptor"))(hm:Bx X id r)(ho:PE X o to)(ha:PA X (e::es) t)
  (cw:attributeBase o name X.env (eval o X.env)=eval o X.env:=by rfl)
  (iF:((backTo aP (starEach (e::es) X.env)).all (λx=>!x.1)&&(backToKw aP (keywordEach [] X.env)).all (λx=>x.1.isSome)
   &&decide ((e::es).length+([]:List Keyword).length+(if ([]:List Keyword).isEmpty then 0 else 1)<30))=true:=by rfl)
  (cg:(apos.endLine==aP.line)=true:=by rfl) (hs:starEach (e::es) X.env=(false,eval e X.env)::starEach es X.env:=by rfl) (df:(backTo aP (starEach es X.env)).any (·.1)=false:=by rfl):
  PE X (.Call (.Attribute o name apos) (e::es) [] aP) (Sa X.K T r to t):=by
 intro pins s σ H Q I h;refine wpAny_Call_method_late cw iF cg rfl (thn (ho pins s σ H _ I h) λv s1 ⟨x,H1,I1,r1,ty,q1⟩=>?_);obtain ⟨h1,h2⟩:=xD I1 r1 ty;refine ⟨T,id,pa,slot,z7,h1,h2,?_⟩;have hA:=ha aP pins s1 σ H1 _ I1 q1;rw [hs] at hA ⊢;refine Calls.callWith_builtin (by show (false|| (backTo aP (starEach es X.env)).any (·.1))=false;rw [df]<;>rfl) (Calls.evalArgs_plain ?_)
 exact thn hA λus s2 ⟨vs,H2,I2,r2,q2⟩=>hm pins s2 σ H2 x vs v us Q I2 r1 r2 q2
end
def yY(X:Cx)(id:String)(r:V→List V→Hp→VK→Prop):Prop:=
 ∀(pins:List (Addr×Obj))(s:Shared)(σ:St)(H:Hp)(x:V)(xs:List V)(v:Value)(us:List Value)(Q:VK),Inv X pins σ H s→RelV x v→Vals xs us→r x xs H Q→
  wpAny (model X.prog X.w) X.A (call (.builtin id) (v::us)) (EP X pins σ Q) X.xe s
theorem Vals.one:∀{x:V}{us:List Value},Vals [x] us→∃u,us= [u]∧RelV x u
 |_,_, .cons r .nil=>⟨_,rfl,r⟩
theorem Vals.two:∀{x y:V}{us:List Value},Vals [x,y] us→∃u v,us= [u,v]∧RelV x u∧RelV y v
 |_,_,_, .cons r (.cons q .nil)=>⟨_,_,rfl,r,q⟩
theorem Vals.zero:∀{us:List Value},Vals [] us→us= []
 |_, .nil=>rfl
theorem Vals.dropLast{xs:List V}{us:List Value}(h:Vals xs us):Vals xs.dropLast us.dropLast:=by
 induction h with
 |nil=>exact .nil
 |cons r t ih=>
  cases t with
  |nil=>exact .nil
  |cons q t'=>exact .cons r ih
theorem Vals.rep{xs:List V}{us:List Value}(h:Vals xs us):∀k:Nat,Vals (List.replicate k xs).flatten (List.replicate k us).flatten
 |0=> .nil
 |k+1=>by
  rw [n5,n5,qz,qz];exact Vals.append h (Vals.rep h k)
theorem t8{α:Type}(l:List α):l.eraseIdx (l.length-1)=l.dropLast:=by
 induction l with
 |nil=>rfl
 |cons a r ih=>
  cases r with
  |nil=>rfl
  |cons b r=>
   have e:(a::b::r).length-1=((b::r).length-1)+1:=by
    have h1:(a::b::r).length=r.length+2:=rfl;have h2:(b::r).length=r.length+1:=rfl;omega
   rw [e,List.eraseIdx_cons_succ,ih]
   all_goals rfl
theorem foldl_rep(its:List Value):∀(k:Nat)(acc:List Value),
  List.foldl (λx1 x2=>x1++x2) acc.toArray (List.replicate k its.toArray)=(acc++(List.replicate k its).flatten).toArray
 |0,acc=>by simp
 |k+1,acc=>by
  have e:acc.toArray++its.toArray=(acc++its).toArray:=by simp
  have e2:(acc++its)++(List.replicate k its).flatten=acc++(List.replicate (k+1) its).flatten:=by
   rw [n5,qz,mw]
  rw [←e2,←foldl_rep its k (acc++its),←e,n5,List.foldl_cons]
section
variable {X:Cx} {pins:List (Addr×Obj)} {σ:St} {H:Hp} {s:Shared} {l b:Addr} {xs ys zs:List V}
theorem Inv.xj{its its':List Value}{n:Nat}{f:Array Value→Array Value}{t':Nat}(I:Inv X pins σ H s)(hH:H l=some (.lst xs))
  (e:s.heap.get? l=some {cls:= .type "list",data:= .seq its.toArray n}) (hf:f its.toArray=its'.toArray) (hv:Vals ys its') (hz:ys.length≤sizeLine):
  Inv X pins σ (upd H l (.lst ys)) {s with heap:=s.heap.update l (Obj.mapSeq f),toks:=t'}:=by
 have q:=PySem.IsL.update e f;rw [hf] at q;refine I.write (x:=l) (e:=l) (by rw [hH];exact trivial) (.inl rfl) (λb' u hb hu=>(Heap.get?_update_other s.heap (Obj.mapSeq f) (Ne.symm hb)).trans hu) ⟨_,q⟩ ?_
 exact ⟨hz,its',_,hv,q⟩
theorem Inv.Al{its:List Value}{t':Nat}(I:Inv X pins σ H s)(hv:Vals ys its)(hz:ys.length≤sizeLine):
  Inv X pins σ (upd H s.heap.objs.size (.lst ys)) {s with heap:=s.heap.push {cls:= .type "list",data:= .seq its.toArray},toks:=t'}:=
 I.laid (λ_ _ q=>Heap.get?_push_of_some _ q) (bC _) ⟨hz,its,0,hv,Heap.get?_push_size _ rfl⟩
theorem Inv.fresh(I:Inv X pins σ H s):H s.heap.objs.size=none:=I.hok.fresh (bC _)
theorem Inv.km(I:Inv X pins σ H s)(hH:H l=some (.lst xs)):xs.length≤sizeLine∧∃(its:List Value)(n:Nat),Vals xs its∧xs.length=its.length∧s.heap.get? l=some {cls:= .type "list",data:= .seq its.toArray n}:=by
 obtain ⟨z,its,n,r,e⟩:=I.hok l _ hH;exact ⟨z,its,n,r,r.length,e⟩
theorem rK{n:Nat}(h:n≤sizeLine):Builtin.List.listTooLong n=false:=by
 unfold Builtin.List.listTooLong;exact decide_eq_false (by omega)
end
section
variable {X:Cx}
def AY:V→List V→Hp→VK→Prop:=λx vs H Q=>∃l xs y,x= .ref l∧vs= [y]∧H l=some (.lst xs)∧xs.length<sizeLine∧Q .aT (upd H l (.lst (xs++ [y])))
theorem kP:yY X "list.append" AY:=by
 intro pins s σ H x vs v us Q I rx rv h;obtain ⟨l,xs,y,rfl,rfl,hH,hz,q⟩:=h;cases rx;obtain ⟨u,rfl,ru⟩:=rv.one;obtain ⟨z,its,n,r,hl,e⟩:=I.km hH;refine call_meets F.slot_list_append ⟨_,e,rfl⟩ F.entry_list_append (F.args_list_append_2 _ _) (PySem.list_append l its.toArray n u (by rw [dQ];omega)) ⟨e,?_⟩
 refine ⟨.aT,_,I.xj (its':=its++ [u]) hH e (by simp) (r.append (.cons ru .nil)) ?_,rfl,q⟩
 rw [cK,mv];omega
def AZ:V→List V→Hp→VK→Prop:=λx vs H Q=>∃l b xs zs,x= .ref l∧vs= [.ref b]∧H l=some (.lst xs)∧H b=some (.lst zs)∧xs.length+zs.length≤sizeLine∧Q .aT (upd H l (.lst (xs++zs)))
theorem v3:yY X "list.extend" AZ:=by
 intro pins s σ H x vs v us Q I rx rv h;obtain ⟨l,b,xs,zs,rfl,rfl,hH,hB,hz,q⟩:=h;cases rx;obtain ⟨u,rfl,ru⟩:=rv.one;cases ru;obtain ⟨z,its,n,r,hl,e⟩:=I.km hH;obtain ⟨z2,nM,n2,r2,OI,e2⟩:=I.km hB;have oy:its.toArray.size+nM.toArray.size≤sizeLine:=by rw [dQ,dQ];omega
 have vL:¬(!its.toArray.isEmpty&&Builtin.List.listTooLong (its.toArray.size+nM.toArray.size))=true:=by
  rw [rK oy,Bool.and_false];exact dP
 refine call_meets F.slot_list_extend ⟨_,e,rfl⟩ F.entry_list_extend (F.args_list_extend_2 _ _)
  (AutoSeq1.list_extend_list_list_0 l its.toArray n b nM.toArray n2 vL (by rw [dQ];omega) (by omega)) ⟨e,e2,?_⟩
 refine ⟨.aT,_,I.xj (its':=its++nM) hH e (by simp) (r.append r2) ?_,rfl,q⟩
 rw [cK];omega
def LB:V→List V→Hp→VK→Prop:=λx vs H Q=>∃l xs y,x= .ref l∧vs= []∧H l=some (.lst xs)∧xs[xs.length-1]? =some y∧Q y (upd H l (.lst xs.dropLast))
theorem Cn:yY X "list.pop" LB:=by
 intro pins s σ H x vs v us Q I rx rv h;obtain ⟨l,xs,y,rfl,rfl,hH,hy,q⟩:=h;cases rx;have FX:=rv.zero;subst FX;obtain ⟨z,its,n,r,hl,e⟩:=I.km hH;obtain ⟨u,hu,ru⟩:=r.get hy
 have B6:its.toArray[its.toArray.size-1]? =some u:=by
  show its.toArray[its.length-1]? =some u;rw [←n4,←hl];exact hu
 refine call_meets F.slot_list_pop ⟨_,e,rfl⟩ F.entry_list_pop (F.args_list_pop_1 _) (MeetsSeq.list_pop_last l its.toArray n u B6 (by rw [dQ];omega)) ⟨e,?_⟩
 refine ⟨y,_,I.xj (its':=its.dropLast) hH e ?_ r.dropLast ?_,ru,q⟩
 ·show its.toArray.eraseIdxIfInBounds (its.toArray.size-1)=its.dropLast.toArray
  rw [dQ,List.eraseIdxIfInBounds_toArray,t8]
 ·rw [List.length_dropLast]
  omega
def CW:V→List V→Hp→VK→Prop:=λx vs H Q=>∃l xs,x= .ref l∧vs= []∧H l=some (.lst xs)∧Q .aT (upd H l (.lst []))
theorem yv:yY X "list.clear" CW:=by
 intro pins s σ H x vs v us Q I rx rv h;obtain ⟨l,xs,rfl,rfl,hH,q⟩:=h;cases rx;have FX:=rv.zero;subst FX;obtain ⟨z,its,n,r,hl,e⟩:=I.km hH;refine call_meets F.slot_list_clear ⟨_,e,rfl⟩ F.entry_list_clear (F.args_list_clear_1 _) (AutoSeq1.list_clear_list_0 l its.toArray n (by rw [dQ];omega)) ⟨e,?_⟩
 exact ⟨.aT,_,I.xj (its':= []) (ys:= []) hH e rfl .nil (fI _),rfl,q⟩
def Lw:R2:=λx y H Q=>∃l b xs zs,x= .ref l∧y= .ref b∧H l=some (.lst xs)∧H b=some (.lst zs)∧xs.length+zs.length≤sizeLine∧∀p,H p=none→Q (.ref p) (upd H p (.lst (xs++zs)))
theorem sS:OpR X (binaryOp .Add) Lw:=by
 intro pins s σ H x y v u Q I rx ry h;obtain ⟨l,b,xs,zs,rfl,rfl,hH,hB,hz,q⟩:=h;cases rx;cases ry;obtain ⟨z,its,n,r,hl,e⟩:=I.km hH;obtain ⟨z2,nM,n2,r2,OI,e2⟩:=I.km hB;refine PySem.P.add_list e e2 ?_ (by rw [dQ,dQ];omega)
 have ea:its.toArray++nM.toArray=(its++nM).toArray:=by simp
 rw [ea];exact ⟨.ref _,_,I.Al (t':=s.toks) (r.append r2) (by rw [cK];omega),rfl,q _ I.fresh⟩
def LC:R2:=λx y H Q=>∃l k xs,x= .ref l∧y= .int k∧H l=some (.lst xs)∧-(2^63)≤k∧k<2^63∧xs.length*k.toNat≤sizeLine∧
 ∀p,H p=none→Q (.ref p) (upd H p (.lst (List.replicate k.toNat xs).flatten))
theorem len_rep{α:Type}(xs:List α)(k:Nat):(List.replicate k xs).flatten.length=k*xs.length:=by
 induction k with
 |zero=>simp
 |succ k ih=>rw [n5,qz,cK,ih,Nat.succ_mul,Nat.add_comm]
theorem xp:OpR X (binaryOp .Mult) LC:=by
 intro pins s σ H x y v u Q I rx ry h;obtain ⟨l,k,xs,rfl,rfl,hH,h1,h2,hz,q⟩:=h;cases rx;obtain ⟨t,rfl⟩:=ry;obtain ⟨z,its,n,r,hl,e⟩:=I.km hH;have hlen:its.toArray.size*k.toNat≤sizeLine:=by rw [dQ,←hl];exact hz
 have Jn:¬its.toArray.size*k.toNat>(2^63-1) / 8:=by
  have:(sizeLine:Nat)≤(2^63-1) / 8:=by decide
  omega
 have Jy:¬(!Builtin.List.listFitsIndex k)=true:=by
  rw [fitsIndex_both h1 h2];exact dP
 have vL:¬Builtin.List.listTooLong (its.toArray.size*k.toNat)=true:=by
  rw [rK hlen];exact dP
 have JC:List.foldl (λx1 x2=>x1++x2) #[] (List.replicate (if its.toArray.isEmpty=true then 0 else k.toNat) its.toArray)=(List.replicate k.toNat its).flatten.toArray:=by
  have f0:∀m:Nat,List.foldl (λx1 x2=>x1++x2) #[] (List.replicate m its.toArray)=(List.replicate m its).flatten.toArray:=λm=>by
   have:=foldl_rep its m []
   rw [qC] at this;exact this
  rw [f0];cases its with
  |nil=>simp
  |cons a r'=>rw [if_neg (by simp)]
 refine wpAny_binaryOp_repeat_ref (T:="list") (U:="int") (by decide) ⟨_,e,rfl⟩ (λs'=>typeIs_int s' k t) noFill_list_mul F.fills_int_mul F.slot_int_rmul repeat_list F.slot_int_index.lookup
  (call_meets F.slot_int_rmul (typeIs_int s k t) F.entry_int_rmul (F.args_int_rmul_2 _ _) (int___rmul___int_list k t l its.toArray n)
   ⟨e,rfl,⟨_,e,rfl⟩,call_meets F.slot_list_mul ⟨_,e,rfl⟩ F.entry_list_mul (F.args_list_mul_2 _ _) (AutoListH.list___mul___list_int_3 l its.toArray n k t Jy Jn vL) ⟨e,?_⟩⟩)
 rw [JC];exact ⟨.ref _,_,I.Al (t':=s.toks) (r.rep k.toNat) (by rw [len_rep,Nat.mul_comm];exact hz),rfl,q _ I.fresh⟩
end
section
variable {prog:Program} {w:World} {A:Around} {E:Value→Shared→Prop} {s:Shared}
end
section
variable {X:Cx}
end
end L2
namespace GQ
open PySem PySem.W PySem.Calls PyProof.Rows
theorem mN{P:Params}{h:Heap}:∀(ns:List Int)(vs:List Value),WellAll P h vs (ns.map WData.int)→IntsAre vs ns:=by
 intro ns
 induction ns with
 |nil=>
  intro vs w;rw [List.map_nil] at w;cases w;exact .nil
 |cons n ns ih=>
  intro vs w;rw [jT] at w;cases w with
  |cons a b=>
   cases a;exact .cons _ _ (ih _ b)
theorem wA{l:OpenLaw}{n:Nat}(hn:l.most=some n){P:Params}{h:Heap}{args:List WData}{vals:List Value}
  (xf:l.row.toRowW.claim.pre args=true) (FY:WellAll P h vals args):
  ∃a vs ns,vals= [Value.ref a]∧args= [WData.list (ns.map WData.int)]∧h.get? a=some {cls:= .type "list",data:= .seq vs.toArray}∧IntsAre vs ns∧ns.length≤n:=by
 have OX:WShape.hasAll [] args [.list .int]=true:=(pre_splitW xf).1;have hc:l.pre.holds [] {args:=args}=true:=(pre_splitW xf).2;obtain ⟨d,r,rfl,h1,h2⟩:=hasAllW_cons OX;obtain rfl:=hasAllW_nil h2;obtain ⟨xs,rfl,h3⟩:=hasW_list h1;obtain ⟨ns,rfl⟩:=items_int h3
 have hlen:ns.length≤n:=by
  unfold OpenLaw.pre at hc
  have h4:(WTm.not (.lt (.lit (.int (n:Int))) (.len (.arg 0)))).holds [] {args:= [.list (ns.map .int)]}=true:=by
   have h4:=(holds_andW hc).1;rw [hn] at h4;exact h4
  have h5:=condW_of h4 (w_not (w_lt w_lit (w_len_list (w_arg rfl))));rw [aW] at h5;refine gQ λq=>?_;have q':(n:Int)<((ns.length:Nat):Int):=by omega
  first
   | (rw [decide_eq_true q'] at h5;exact absurd h5 (by decide))
   | (simp at h5;omega)
 cases FY with
 |cons w1 w2=>
  cases w2;cases w1 with
  |list ho Jj=>exact ⟨_,_,ns,rfl,rfl,ho,mN ns _ Jj,hlen⟩
theorem wx(l:OpenLaw)(args:List WData):l.row.toRowW.claim.post args (.bool true) args=true:=
 postW_of (r:=l.row.toRowW) (X:=(true==true))
  (show WShape.has [] (.bool true) .bool=true by first|rfl|decide|simp [WShape.has,WShape.arms,WShape.armsAll])
  (show (WTm.eq .res (.lit (.bool true))).value [] {args:=args,res:=some (.bool true),after:=args}=some (.bool (true==true)) from w_eq_bool (w_res rfl) w_lit) rfl
theorem r9{l:OpenLaw}{n:Nat}{q:Program}{loose:List Str}{XP:(Str→Option Value)→Heap→Prop}{YP:World→Heap→Prop}{d:DefRec}
  (hn:l.most=some n) (vH:d.params.defaults= [])
  (call:∀(w:World)(s₀ s₁:Shared)(mg mb:Str→Option Value)(fa:Addr)(o:Obj)(pm cd doc:Value)(a:Addr)(vs:List Value)(ns:List Int),
   Ground q loose [] XP w s₀ mg mb s₁.heap→YP w s₁.heap→
   s₁.heap.get? fa=some o→o.data= .func (docDef d.name d.params d.body d.scope pm cd doc)→s₁.heap.CodeRec cd d.name→mg d.name=some (.ref fa)→
   s₁.heap.get? a=some {cls:= .type "list",data:= .seq vs.toArray}→IntsAre vs ns→ns.length≤n→s₁.gens= #[]→
   codeAny (model l.prog w) callerA (.call (.ref fa) ⟨[.ref a],[]⟩) (λr s'=>r= .ok (.ret (.bool true))∧OldK s₁.heap s'.heap∧s'.os=s₁.os∧AllBare s'.gens) s₁):
  WalkO q loose XP YP l.row.toRowW d [] (λf vs=>PySem.call f vs):=by
 intro w s₀ s₁ mg mb G Y fa o pm cd doc dV kV ho hd cI hD vN hg args vals as xf So SR FY SQ;obtain rfl:dV= .none:=Dflts.none hD vH;obtain rfl:kV= .none:=Dflts.noKw hD;obtain ⟨a,vs,ns,rfl,rfl,z4,hints,hlen⟩:=wA hn xf FY;refine enter_call (codeAny_mono (call w s₀ s₁ mg mb fa o pm cd doc a vs ns G Y ho (fd_plain hd) cI vN z4 hints hlen hg) λr s' hq=>?_);obtain ⟨rfl,h2,h3,h4⟩:=hq;exact ⟨.inl ⟨.bool true, .bool true,[],rfl,λ_=>rfl, .bool true,wx l _,λ_=>⟨List.Pairwise.nil,λ_ hm=>(nomatch hm)⟩⟩,h2,h3,h4⟩
section
variable {prog:Program} {w:World} {A:Around} {E:Value→Shared→Prop} {s:Shared} {K:Frag}
end
end GQ
namespace L2
open PySem PySem.Spec PyProof.Rows
theorem kY:∀{vs:List Value}{ns:List Int},IntsAre vs ns→Vals (ns.map V.int) vs
 |_,_, .nil=> .nil
 |_,_, .cons n t h=> .cons ⟨t,rfl⟩ (kY h)
def yZ(H:Hp):Prop:=∀b,H b=none∨∃o xs,H b=some (.lH o (.lst xs))
theorem yp{P:Program}{w:World}{K:PySem.W.Frag}{mg mb:Str→Option Value}{CX:mD}{k:Nat}{fa a:Addr}{fd:FuncData}{x:Str}{sp:Sp}{s₁:Shared}{vs:List Value}{ns:List Int}
  (KX:K.In s₁.heap) (vO:s₁.heap.Ns mainGlobals mg) (hb:s₁.heap.Ns builtinsNs mb) (Om:∀x:Str,x≠"__name__"→mb x=bootBuiltins x) (JB:s₁.heap.NoLimit) (hg:s₁.gens= #[])
  (ha:s₁.heap.get? a=some {cls:= .type "list",data:= .seq vs.toArray}) (hi:IntsAre vs ns) (hl:ns.length≤sizeLine) (hr:bI k callerA)
  (F:∀base:Heap,K.In base→base.Ns mainGlobals mg→FnOk P w K mg base CX k fa fd [x] sp) (FE:∀(s:Shared)(u:Value),BindsTo s fd ⟨[u],[]⟩ [(x,u)])
  (uh:∀H:Hp,yZ H→bE K H a (ns.map V.int)→sp [.ref a] H (λv _=>v= .bl true) λ_ _ _=>False)
  (Fy:∀H e s',CX [] H s₁ (λ_ _ _=>False) e s'→False):
  codeAny (model P w) callerA (.call (.ref fa) ⟨[.ref a],[]⟩) (λr s'=>r= .ok (.ret (.bool true))∧OldK s₁.heap s'.heap∧s'.os=s₁.os∧AllBare s'.gens) s₁:=by
 have rv:=kY hi;have Ki:=hi.length
 have core:∀H:Hp,yZ H→bE K H a (ns.map V.int)→fX P w H s₁.heap→(∀b,H b≠none→b=a)→(H a≠none→K.lookup a=none)→
   codeAny (model P w) callerA (.call (.ref fa) ⟨[.ref a],[]⟩) (λr s'=>r= .ok (.ret (.bool true))∧OldK s₁.heap s'.heap∧s'.os=s₁.os∧AllBare s'.gens) s₁:=by
  intro H hO hS hok hA hK;have tO:∀{b:Addr}{o:Obj},s₁.heap.get? b=some o→H b=none→(lK s₁.heap H).get? b=some o:=λe n=>yi e n
  have Ap:∀{b:Addr}{o:Obj}{es:Array DictEntry}{ep:Nat},s₁.heap.get? b=some o→o.data= .dict es ep→H b=none:=λ {b o es ep} e d=>by
   cases q:H b with
   |none=>rfl
   |some u=>
    have e':b=a:=hA b (by rw [q];simp)
    subst e';rw [ha] at e;cases e;have d':Data.seq vs.toArray _=Data.dict es ep:=d;cases d'
  have Cp:∀{b:Addr}{m:Str→Option Value},s₁.heap.Ns b m→(lK s₁.heap H).Ns b m:=λ {b m} ⟨o,es,ep,e,d,r⟩=>⟨o,es,ep,tO e (Ap e d),d,r⟩
  have Jg:K.In (lK s₁.heap H):=λb o e=>tO (KX b o e) (by
   cases q:H b with
   |none=>rfl
   |some u=>
    have e':b=a:=hA b (by rw [q];simp)
    subst e';rw [hK (by rw [q];simp)] at e;cases e)
  have hM:Mod K mg (lK s₁.heap H):=⟨Jg,Cp vO,⟨mb,Cp hb,Om⟩,let ⟨mc,h1,h2⟩:=JB;⟨mc,Cp h1,h2⟩⟩;have e0:Env0 P w K mg (lK s₁.heap H) callerA [] s₁ H:=⟨rfl,hM,λb o e=>As e,Nat.le_of_eq (vK _ _),trivial,λb hb=>absurd (show b∈([]:List Addr) from hb) (by simp),hok, .of_eq hg⟩
  refine codeAny_mono ((F _ Jg (Cp vO)).run callerA [] s₁ H ⟨[.ref a],[]⟩ [.ref a] [.ref a] _ _ hr e0 (FE s₁ (.ref a)) (.cons rfl .nil) (uh H hO hS)) λr s' h=>?_;cases r with
  |error e=>exact (Fy H e s' h).elim
  |ok fl=>
   cases fl with
   |next=>exact False.elim h
   |brk=>exact False.elim h
   |cont=>exact False.elim h
   |ret u=>
    obtain ⟨v,H',os,bare,un,JF,r',q⟩:=h;have q':v= .bl true:=q;subst q';obtain rfl:u=Value.bool true:=r';refine ⟨rfl,OldK.of_keep λb o e=>?_,os,bare⟩;cases q:H b with
    |none=>exact un.keep b o e q (by intro z;exact absurd (show b∈([]:List Addr) from z) (by simp)) (by simp)
    |some u=>
     rcases hO b with z| ⟨ob,xs,z⟩
     ·rw [q] at z;cases z
     ·have z2:=un.frzs b ob _ z
      obtain ⟨e1,_⟩:=hok b _ z;obtain ⟨e2,_⟩:=JF b _ z2;rw [e] at e1;cases e1;exact e2
 cases hk:K.lookup a with
 |some o=>
  have e:=KX a o hk;rw [ha] at e;cases e;refine core (λ_=>none) (λ_=> .inl rfl) (.inr ⟨_,vs.toArray,_,hk,rfl,rfl,rfl,by rw [dQ,Ki];exact hl,by simpa using rv⟩) (λb u z=>by have z':(none:Option HO)=some u:=z;cases z') (λb z=>absurd rfl z) λz=>absurd rfl z
 |none=>
  refine core (λb=>if b=a then some (.lH {cls:= .type "list",data:= .seq vs.toArray} (.lst (ns.map V.int))) else none) (λb=>?_) (.inl (.inr ⟨{cls:= .type "list",data:= .seq vs.toArray},if_pos rfl⟩)) (λb u z=>?_) (λb z=>?_) λ_=>hk
  ·by_cases hb:b=a
   ·exact .inr ⟨_,_,if_pos hb⟩
   ·exact .inl (if_neg hb)
  ·by_cases hb:b=a
   ·have z':=(if_pos hb).symm.trans z
    cases z';subst hb;exact ⟨ha,by rw [aW];exact hl,vs,_,rv,ha⟩
   ·have z':=(if_neg hb).symm.trans z
    cases z'
  ·by_cases hb:b=a
   ·exact hb
   ·exact absurd (if_neg hb) z
theorem Bt{l:PySem.W.OpenLaw}{n k:Nat}{q:Program}{loose:List Str}{XP:(Str→Option Value)→Heap→Prop}{YP:World→Heap→Prop}{d:DefRec}{K:Params→PySem.W.Frag}{CX:World→mD}{sp:World→Sp}{x:Str}
  (hn:l.most=some n) (B3:n≤sizeLine) (vH:d.params.defaults= []) (hr:bI k callerA)
  (hY:∀(w:World)(h:Heap),YP w h→(K w.params).In h)
  (F:∀(w:World)(mg:Str→Option Value)(fa:Addr)(h:Heap),(K w.params).In h→h.Ns mainGlobals mg→mg d.name=some (.ref fa)→
   ∃fd:FuncData,(∀(s:Shared)(u:Value),BindsTo s fd ⟨[u],[]⟩ [(x,u)])∧
    ∀base:Heap,(K w.params).In base→base.Ns mainGlobals mg→FnOk l.prog w (K w.params) mg base (CX w) k fa fd [x] (sp w))
  (uh:∀(w:World)(H:Hp)(a:Addr)(ns:List Int),ns.length≤n→yZ H→bE (K w.params) H a (ns.map V.int)→sp w [.ref a] H (λv _=>v= .bl true) λ_ _ _=>False)
  (Fy:∀(w:World)(H:Hp)(s:Shared)(e:Value)(s':Shared),CX w [] H s (λ_ _ _=>False) e s'→False):
  PySem.W.WalkO q loose XP YP l.row.toRowW d [] (λf vs=>PySem.call f vs):=by
 refine GQ.r9 hn vH λw s₀ s₁ mg mb fa o pm cd doc a vs ns G Y ho hd cI vN z4 hints hlen hg=>?_;have KX:=hY w _ Y;obtain ⟨fd,hb,hF⟩:=F w mg fa _ KX G.T.g vN;exact yp KX G.T.g G.T.b G.T.builtins G.T.nolimit hg z4 hints (jU hlen B3) hr hF hb (λH hO hS=>uh w H a ns hlen hO hS) λH e s'=>Fy w H s₁ e s'
def inClass(s:Stmt)(j:Nat):Stmt:=match s with
 | .ClassDef _ _ _ body _ _ _ _ _ _ _=>body.getD j (.Pass ⟨0,0,0,0⟩)
 |_=> .Pass ⟨0,0,0,0⟩
def gr(s:Stmt):Arguments:=match s with
 | .FunctionDef _ a _ _ _ _ _ _ _ _=>a
 |_=>{posonlyargs:= [],args:= [],vararg:=none,kwonlyargs:= [],kw_defaults:= [],kwarg:=none,defaults:= []}
def dE(s:Stmt):List Stmt:=match s with
 | .FunctionDef _ _ b _ _ _ _ _ _ _=>b
 |_=> []
def ar(s:Stmt):Scope:=match s with
 | .FunctionDef _ _ _ _ _ _ sc _ _ _=>sc
 |_=>{kind:= .function,names:= [],isGenerator:=false,isCoroutine:=false}
abbrev bQ:mD:=λ_ _ _ _ _ _=>False
abbrev E0:XK:=λ_ _ _=>False
theorem sU{X:Cx}:Passes bQ X E0:=λ_ _ _ _ _ _ _ h=>h.elim
structure qH (K:PySem.W.Frag) (x qual:Str) (st:Stmt) (f:Addr) (fd:FuncData):Prop where
 ex:∃(oc:Value)(od:Option Addr)(kV doc pm:Value)(an:Option Addr)(bg ct:Value)(uy:Array (Option Value)),
  fd=PySem.W.fnOf x qual (gr st) (dE st) (ar st) .none kV doc pm an bg ct∧K.lookup f=some ⟨oc,od, .func fd,uy⟩∧PySem.W.codeIn K bg qual=true
 kp:PySem.W.keepIn K (.ref f)=true
section
variable {P:Program} {w:World} {K:PySem.W.Frag} {mg:Str→Option Value} {base:Heap}
theorem qH.ok{x qual:Str}{st:Stmt}{f:Addr}{fd:FuncData}{N ps:List Str}{k:Nat}{sp:Sp}(F:qH K x qual st f fd)(S:aJ N ps (ar st))(len:∀vs H Q E,sp vs H Q E→vs.length=ps.length)
  (kJ:∀(bg:Value)(A:Around)(outer:List Env)(s:Shared)(H:Hp)(vs:List V)(Q:VK)(E:XK),bI k (A.deeper (envOfC qual (ar st) s.heap.objs.size f bg))→sp vs H Q E→
   ∃t,jt (nF bQ P w K mg base N qual (ar st) f bg A outer s H E).qa (dE st) t∧t {nx:=λ_ H'=>Q .aT H',rt:=Q} (start N vs) H):FnOk P w K mg base bQ (k+1) f fd ps sp:=by
 obtain ⟨oc,od,kV,doc,pm,an,bg,ct,uy,rfl,lk,cI⟩:=F.ex;refine Fv lk cI S len λA outer s H vs Q E hr uh=>?_;obtain ⟨t,h,q⟩:=kJ bg A outer s H vs Q E hr uh;exact ⟨t,h.qa,q⟩
theorem qH.binds{x qual:Str}{st:Stmt}{f:Addr}{fd:FuncData}{ps:List Str}(F:qH K x qual st f fd)
  (h:∀(kV doc pm:Value)(an:Option Addr)(bg ct:Value)(us:List Value),us.length=ps.length→bindArgs (PySem.W.fnOf x qual (gr st) (dE st) (ar st) .none kV doc pm an bg ct) ⟨us,[]⟩=pure (ps.zip us)):Binds K fd ps []:=by
 obtain ⟨oc,od,kV,doc,pm,an,bg,ct,uy,rfl,lk,cI⟩:=F.ex;exact .all (h kV doc pm an bg ct)
theorem lI{x qual:Str}{st:Stmt}{f:Addr}{oc:Value}{od an:Option Addr}{uy:Array (Option Value)}{kV doc pm bg ct:Value}(l:K.lookup f=some ⟨oc,od, .func (PySem.W.fnOf x qual (gr st) (dE st) (ar st) .none kV doc pm an bg ct),uy⟩)
  (c:PySem.W.codeIn K bg qual=true) (k:PySem.W.keepIn K (.ref f)=true):qH K x qual st f (PySem.W.fnOf x qual (gr st) (dE st) (ar st) .none kV doc pm an bg ct):=⟨⟨oc,od,kV,doc,pm,an,bg,ct,uy,rfl,l,c⟩,k⟩
end
theorem b4{n:Nat}(h:n≤1000):n<sizeLine:=Nat.lt_of_le_of_lt h (by decide)
section
variable {X:Cx}
theorem pv(i:Nat){x:Str}{pos:Pos}(hN:X.N[i]? =some x:=by rfl)(hv:iS X.env.scope x:=by first|exact Or.inl rfl|exact Or.inr (Or.inl rfl) |exact Or.inr (Or.inr rfl))(hd:(x==("__debug__":Str))=false:=by decide)
  (cI:(x==("__classdict__":Str))=false:=by decide):PE X (.Name x pos) (Er i):=sY hN hv hd cI
end
theorem bX{A B:Prop}(h:B):if false=true then A else B:=by
 rw [if_neg dP];exact h
theorem cq{A B:Prop}(h:A):if true=true then A else B:=by
 rw [if_pos rfl];exact h
def aO(H H':Hp):Prop:=∀b o,H b=some o→H' b=some o
theorem aO.refl(H:Hp):aO H H:=λ_ _ h=>h
theorem aO.trans{H H1 H2:Hp}(a:aO H H1)(b:aO H1 H2):aO H H2:=λc o h=>b c o (a c o h)
theorem aO.free{H H':Hp}(e:aO H H'){l:Addr}(h:H' l=Option.none):H l=Option.none:=by
 cases q:H l with
 |none=>rfl
 |some o=>
  rw [e l o q] at h;cases h
def gY(env:Env):List (Str×NameKind)→List (Str×Addr)→List (Str×Addr)
 | [],cs=>cs
 | (n,k)::r,cs=>if k==NameKind.free then gY env r ((n,(env.cells.lookup n).getD 0)::cs) else gY env r cs
theorem iC{scope:Scope}{env:Env}(h:∀x∈scope.names,x.2= .free→∃c,env.cells.lookup x.1=some c):closureFor scope env=pure (gY env scope.names []):=by
 simp only [closureFor]
 have go:∀(names:List (Str×NameKind))(cs:List (Str×Addr)),(∀x∈names,x.2= .free→∃c,env.cells.lookup x.1=some c)→
   (forIn names cs λx __s=>if (x.snd==NameKind.free)=true then (do let a ←cellOf env x.fst;pure (ForInStep.yield ((x.fst,a)::__s))) else pure (ForInStep.yield __s))=(pure (gY env names cs):Sem _):=by
  intro names
  induction names with
  |nil=>intro cs _;rfl
  |cons x r ih=>
   intro cs h;obtain ⟨n,k⟩:=x;rw [List.forIn_cons,gY];have hr:=λcs=>ih cs λy hy=>h y (fJ _ hy);cases hk:k==NameKind.free with
   |false=>
    simp only [hk,u3,if_false];exact hr cs
   |true=>
    have iG:k= .free:=by simpa using hk
    obtain ⟨c,hc⟩:=h (n,k) fQ iG;simp only at hc;simp only [if_true,cellOf,hc];exact hr _
 rw [go _ _ h];rfl
theorem cY{env:Env}:∀(names:List (Str×NameKind))(cs:List (Str×Addr)),(∀x∈names,x.2= .free→∃c,env.cells.lookup x.1=some c)→(∀x c,cs.lookup x=some c→env.cells.lookup x=some c)→
  ∀x c,(gY env names cs).lookup x=some c→env.cells.lookup x=some c
 | [],cs,_,hc=>hc
 | (n,k)::r,cs,h,hc=>by
  rw [gY]
  split
  ·rename_i hk
   refine cY r _ (λy hy=>h y (fJ _ hy)) λx c e=>?_;obtain ⟨c',pR⟩:=h (n,k) fQ (by simpa using hk)
   rw [my] at e
   split at e
   ·rename_i hx
    have Aa:x=n:=by simpa using hx
    subst Aa;simp only at pR;rw [pR] at e ⊢;exact e
   ·exact hc x c e
  ·exact cY r cs (λy hy=>h y (fJ _ hy)) hc
theorem jX{env:Env}:∀(names:List (Str×NameKind))(cs:List (Str×Addr))(x:Str),((x,NameKind.free)∈names∨∃c,cs.lookup x=some c)→∃c,(gY env names cs).lookup x=some c
 | [],cs,x,h=>by
  rcases h with h|h
  ·cases h
  ·exact h
 | (n,k)::r,cs,x,h=>by
  rw [gY]
  split
  ·rename_i hk
   refine jX r _ x ?_
   by_cases e:x=n
   ·subst e;exact .inr ⟨(env.cells.lookup x).getD 0,by simp [my]⟩
   ·have ne:(x==n)=false:=by simpa using e
    rcases h with h| ⟨c,h⟩
    ·rcases cV.mp h with z|z
     ·cases z;exact absurd rfl e
     ·exact .inl z
    ·exact .inr ⟨c,by rw [my,ne];exact h⟩
  ·rename_i hk
   refine jX r cs x ?_
   rcases h with h|h
   ·rcases cV.mp h with z|z
    ·cases z;exact absurd rfl hk
    ·exact .inl z
   ·exact .inr h
def ky(src:List (Option Nat))(σ:St):St:=src.map λo=>o.bind λi=>(σ[i]?).bind id
def b8(scope:Scope)(XN:List Str):List (Option Nat)→List Str→Prop
 | [],[]=>True
 |none::r,_::n=>b8 scope XN r n
 |some i::r,x::n=>XN[i]? =some x∧scope.names.lookup x=some .free∧b8 scope XN r n
 |_,_=>False
theorem b8.len{scope:Scope}{XN:List Str}:∀{src:List (Option Nat)}{NC:List Str},b8 scope XN src NC→src.length=NC.length
 | [],[],_=>rfl
 |none::r,_::n,h=>by have:=b8.len (src:=r) (NC:=n) h;simp [this]
 |some i::r,_::n,h=>by have:=b8.len (src:=r) (NC:=n) h.2.2;simp [this]
 | [],_::_,h=>h.elim
 |none::_,[],h=>h.elim
 |some _::_,[],h=>h.elim
theorem b8.at{scope:Scope}{XN:List Str}:∀{src:List (Option Nat)}{NC:List Str}{j i:Nat}{x:Str},b8 scope XN src NC→src[j]? =some (some i)→NC[j]? =some x→XN[i]? =some x∧scope.names.lookup x=some .free
 | [],[],_,_,_,_,h,_=>by simp at h
 |none::r,_::n,0,_,_,_,h,_=>by simp at h
 |none::r,_::n,j+1,i,x,h,h1,h2=>b8.at (src:=r) (NC:=n) (j:=j) h (by simpa using h1) (by simpa using h2)
 |some k::r,y::n,0,i,x,h,h1,h2=>by
  have e1:k=i:=by simpa using h1
  have e2:y=x:=by simpa using h2
  subst e1 e2;exact ⟨h.1,h.2.1⟩
 |some k::r,_::n,j+1,i,x,h,h1,h2=>b8.at (src:=r) (NC:=n) (j:=j) h.2.2 (by simpa using h1) (by simpa using h2)
 | [],_::_,_,_,_,h,_,_=>h.elim
 |none::_,[],_,_,_,h,_,_=>h.elim
 |some _::_,[],_,_,_,h,_,_=>h.elim
structure bG (X:Cx) (scope:Scope):Prop where
 kind:scope.kind= .function
 names:∀x∈scope.names,x.2= .local→scope.names.lookup x.1=some .local
 nocell:∀x∈scope.names,x.2≠ .cell
 free:∀x∈scope.names,x.2= .free→X.env.kindOf x.1=some .cell∨X.env.kindOf x.1=some .free
theorem fM{env:Env}:∀(names:List (Str×NameKind))(x:Str),
  (names.map λ(n,k)=>if (k==NameKind.free&&env.scope.kind== .function&&env.kindOf n==some .cell) then (n,NameKind.cell) else (n,k)).lookup x=
   (names.lookup x).map λk=>if (k==NameKind.free&&env.scope.kind== .function&&env.kindOf x==some .cell) then NameKind.cell else k
 | [],_=>rfl
 | (n,k)::r,x=>by
  have ih:=fM (env:=env) r x;show List.lookup x ((if (k==NameKind.free&&env.scope.kind== .function&&env.kindOf n==some .cell)=true then (n,NameKind.cell) else (n,k))::_)=_;cases hx:x==n with
  |true=>
   have e:x=n:=by simpa using hx
   subst e
   by_cases hc:(k==NameKind.free&&env.scope.kind== .function&&env.kindOf x==some .cell)=true
   ·rw [if_pos hc,my,my]
    simp only [hx];show some NameKind.cell=some (if _ then _ else _);rw [if_pos hc]
   ·rw [if_neg hc,my,my]
    simp only [hx];show some k=some (if _ then _ else _);rw [if_neg hc]
  |false=>
   by_cases hc:(k==NameKind.free&&env.scope.kind== .function&&env.kindOf n==some .cell)=true
   ·rw [if_pos hc];simp only [my,hx];exact ih
   ·rw [if_neg hc];simp only [my,hx];exact ih
theorem mem_lookup{names:List (Str×NameKind)}{x:Str}{k:NameKind}(h:names.lookup x=some k):(x,k)∈names:=PySem.mem_of_lookup h
def dN(X:Cx)(scope:Scope)(NC:List Str)(ex:List Addr)(s:Shared)(H:Hp):Cx:=
 {X with N:=NC,s₀:=s,H₀:=H,env:=compEnvC scope (gY X.env scope.names []) s.heap.objs.size X.env,outer:=X.stack,stack:=X.stack,ex:=ex,fn:=λ_=>false,pn:= [],xe:=λ_ _=>False}
section
variable {X:Cx} {pins:List (Addr×Obj)} {σ:St} {H:Hp} {s:Shared} {scope:Scope} {NC:List Str} {ex:List Addr} {src:List (Option Nat)}
theorem bG.cells(c:bG X scope)(ok:X.Ok):∀x∈scope.names,x.2= .free→∃c,X.env.cells.lookup x.1=some c:=λx hx e=>ok.has x.1 (c.free x hx e)
theorem bG.F4(c:bG X scope){C:Addr}{x:Str}{k:NameKind}(h:(compEnvC scope (gY X.env scope.names []) C X.env).kindOf x=some k)(hk:k= .cell∨k= .free):scope.names.lookup x=some .free:=by
 have h':(relabel scope X.env).names.lookup x=some k:=h;unfold relabel at h';rw [fM] at h';cases e:scope.names.lookup x with
 |none=>rw [e] at h';cases h'
 |some k'=>
  have nc:=c.nocell _ (mem_lookup e);rw [e] at h';have h2:(if (k'==NameKind.free&&X.env.scope.kind== .function&&X.env.kindOf x==some .cell) then NameKind.cell else k')=k:=Option.some.inj h'
  by_cases hf:k'= .free
  ·rw [hf]
  ·have hb:(k'==NameKind.free)=false:=by simpa using hf
   rw [hb,Bool.false_and,Bool.false_and,if_neg dP] at h2
   rcases hk with z|z
   ·rw [h2] at nc;exact absurd z nc
   ·rw [h2] at hf;exact absurd z hf
theorem zd(I:Inv X pins σ H s)(c:bG X scope)(hf:∀b∈ex,fR X pins H b)(eC:∀b∈ex,b<s.heap.objs.size):(dN X scope NC ex s H).Ok where
 mod:=I.ok.mod
 kind:=c.kind
 glob:=I.ok.glob
 blt:=I.ok.blt
 above:=bC _
 inj:=λx y d h1 h2=>I.ok.inj x y d (cY _ _ (c.cells I.ok) (λ_ _ z=>by cases z) x d h1) (cY _ _ (c.cells I.ok) (λ_ _ z=>by cases z) y d h2)
 has:=λx hx=>jX _ _ x (.inl (mem_lookup (by rcases hx with h|h<;>exact c.F4 h (by simp))))
 cab:=λ_ _ z=>by cases z
 hd:=I.ok.hd
 frames:=I.ok.frames
 stk:= .inl rfl
 exf:=λb hb=>⟨cn (eC b hb),λx d e=>(hf b hb).2.2.2.2.1 x d (cY _ _ (c.cells I.ok) (λ_ _ z=>by cases z) x d e)⟩
 bs:=I.bs
 bsz:=jU I.ok.bsz I.sz
 noex:=λb o e hb=>by
  rcases (hf b hb).2.2.2.1 with z|z
  ·exact I.ok.noex b o e z
  ·exact absurd (eS (Heap.lt_size e) (jU I.ok.bsz z)) (jk _)
 exfs:=λb hb z=>(cV.mp (I.tF b z)).elim (hf b hb).2.1 (hf b hb).2.2.1
 funs:=I.stack
 frf:=I.uR
theorem xQ{h1:Heap}{tk:Nat}{ob:Obj}(I:Inv X pins σ H s)(c:bG X scope)(dS:b8 scope X.N src NC)(hf:∀b∈ex,fR X pins H b)(eC:∀b∈ex,b<s.heap.objs.size)
  (vO:h1.Ns s.heap.objs.size (λ_=>none)) (yn:Heap.SameBut s.heap.objs.size (s.heap.push ob) h1):
  Inv (dN X scope NC ex s H) [] (ky src σ) H {s with heap:=h1,toks:=tk}:=by
 have old:∀b o,s.heap.get? b=some o→h1.get? b=some o:=λb o e=>yn.extBut b o (cn (Heap.lt_size e)) (Heap.get?_push_of_some _ e);have cl:∀x d,(gY X.env scope.names []).lookup x=some d→X.env.cells.lookup x=some d:=λx d=>cY _ _ (c.cells I.ok) (λ_ _ z=>by cases z) x d
 have cellK:∀d v,s.heap.IsCell d v→h1.IsCell d v:=λd v ⟨o,ho,hd⟩=>⟨o,old d o ho,hd⟩;refine ⟨zd I c hf eC,rfl,I.bare,Un.kept old,⟨_,vO,λj x v e1 e2 e3=>?_⟩,λx d e=>?_,I.hok.fresh (bC _),λx d e=>I.freeC x d (cl x d e),λp hp=>absurd (show p∈([]:List (Addr×Obj)) from hp) (by simp),I.hok.kept old,?_⟩
 ·have gW:(ky src σ)[j]? =some (some v):=e2
  unfold ky at gW;rw [cU] at gW;cases ej:src[j]? with
  |none=>rw [ej] at gW;cases gW
  |some o=>
   rw [ej] at gW;cases o with
   |none=>cases gW
   |some i=>
    have e4:(σ[i]?).bind id=some v:=Option.some.inj gW
    have e5:σ[i]? =some (some v):=by
     cases q:σ[i]? with
     |none=>rw [q] at e4;cases e4
     |some z=>rw [q] at e4;exact congrArg some e4
    obtain ⟨hN,FK⟩:=dS.at ej e1;have hk:=c.free _ (mem_lookup FK) rfl;obtain ⟨m,hn,hl⟩:=I.loc;obtain ⟨u,r,l⟩:=hl i x v hN e5 (hk.elim (λz=> .inr (.inl z)) (λz=> .inr (.inr z)));refine ⟨u,r, .inr ⟨?_,?_⟩⟩
    ·show (relabel scope X.env).names.lookup x=_∨(relabel scope X.env).names.lookup x=_
     unfold relabel;rw [fM,FK]
     by_cases z:(NameKind.free==NameKind.free&&X.env.scope.kind== .function&&X.env.kindOf x==some .cell)=true
     ·left;simp only [Option.map_some,z,if_true]
     ·right;simp only [Option.map_some,z];rfl
    ·obtain ⟨d,hd⟩:=jX (env:=X.env) scope.names [] x (.inl (mem_lookup FK))
     refine ⟨d,hd,?_⟩
     rcases l with ⟨l,_⟩ | ⟨_,d',e,z⟩
     ·exfalso;rcases hk with z|z<;>(rw [l] at z;cases z)
     ·rw [cl x d hd] at e;cases e;exact cellK d _ z
 ·obtain ⟨v,z⟩:=I.cell x d (cl x d e)
  exact ⟨v,cellK d v z⟩
 ·show (ky src σ).length=NC.length
  unfold ky;rw [aW];exact dS.len
theorem comp_back{H':Hp}{aI:St}{s':Shared}{h2:Heap}{sZ:List (Addr×Obj)}(I:Inv X pins σ H s)(hf:∀b∈ex,fR X pins H b)(J:Inv (dN X scope NC ex s H) sZ aI H' s')
  (yn:Heap.SameBut s.heap.objs.size s'.heap h2):Inv X pins σ H' {s' with heap:=h2}:=by
 have up:∀b o,b≠s.heap.objs.size→s'.heap.get? b=some o→h2.get? b=some o:=λb o hb e=>yn.extBut b o hb e;have ne:∀b o,s.heap.get? b=some o→b≠s.heap.objs.size:=λb o e=>cn (Heap.lt_size e);have u:=J.base;refine I.EC (ch:=ex) (show s'.os=s.os from J.os) ⟨λb o e n hb hx=>up b o (ne b o e) (u.keep b o e n hb hx),λb o e n hb hx=>?_,u.free,λb o e hx=>?_,u.tups,u.frzs,u.tbls⟩ ?_ J.bare λb hb=>?_
 ·obtain ⟨sl,q⟩:=u.slot b o e n hb hx
  exact ⟨sl,up b _ (ne b o e) q⟩
 ·obtain ⟨o',q⟩:=u.there b o e hx
  exact ⟨o',up b o' (ne b o e) q⟩
 ·intro b o e
  have nC:∀b o,H' b=some o→b≠s.heap.objs.size:=λb o e z=>by
   have:=J.free
   rw [z] at e;have e':H' s.heap.objs.size=none:=this;rw [e'] at e;cases e
  refine (J.hok b o e).nX (λd v hd q=>up d v ?_ q) (λ_ q=>q) λ_ _ q=>q
  rcases hd with z|z
  ·rw [z];exact nC b o e
  ·exact nC d _ z
 ·obtain ⟨_,f1,_,f3,f4,f5⟩:=hf b hb
  exact ⟨f3,f1,f4,f5⟩
end
def qI(X:Cx)(ifs:List Expr)(t:TT):Prop:=
 ∀(pins:List (Addr×Obj))(s:Shared)(σ:St)(H:Hp)(Q:Bool→Hp→Prop),Inv X pins σ H s→t σ H Q→
  wpAny (model X.prog X.w) X.A (forIn ifs true λc r=>if r=true then do let ok ←isTrue c X.env (eval c X.env);pure (ForInStep.yield ok) else pure (ForInStep.yield r)) (TP X pins σ Q) X.xe s
def Bp:TT:=λ_ H Q=>Q true H
theorem uH{X:Cx}:qI X [] Bp:=λ_ _ _ H _ I h=>wpAny_tests_nil ⟨H,I,h⟩
theorem AU{X:Cx}{c:Expr}{t:TT}(h:PT X c t):qI X [c] t:=λpins s σ H Q I q=>wpAny_tests_one (h pins s σ H Q I q)
def MA(J:It)(g:TG)(tt:TT)(te:TE)(D:Addr)(Q:VK)(σ:St)(H:Hp):Prop:=
 ∃W:Nat→Nat→St→Hp→Prop,(∃m,W 0 m σ H)∧∀i m gS H2,W i m gS H2→
  (J.stop i H2∧Q (.ref D) H2)∨
  (J.go i H2∧∃N:St→Hp→Prop,(∀aI H',N aI H'→∃m',m'<m∧W (i+1) m' aI H')∧∀x H3,J.yld i H2 x H3→g x gS H3 λjr H4=>tt jr H4 λb H5=>
   if b=true then te jr H5 λv H6=>∃ys,H6 D=some (.lst ys)∧ys.length<sizeLine∧N jr (upd H6 D (.lst (ys++ [v]))) else N jr H5)
def Bl(wi:TI)(g:TG)(tt:TT)(te:TE)(src:List (Option Nat)):TE:=λσ H Q=>wi σ H λJ H1=>∀D,H1 D=none→MA J g tt te D Q (ky src σ) (upd H1 D (.lst []))
section
variable {X:Cx} {elt iter tg:Expr} {ifs:List Expr} {scope:Scope} {pos:Pos} {wi:TI} {g:TG} {tt:TT} {te:TE} {src:List (Option Nat)} {NC:List Str}
theorem nB{pins:List (Addr×Obj)}{σ:St}{s2:Shared}{H2:Hp}{it:Addr}{fp:List Addr}{tn:Nat→Heap→Prop}{J:It}{RR:Value→Addr→Result→Shared→Prop}{E:Value→Shared→Prop}{Q:VK}
  (hc:X.calm=true) (c:bG X scope) (dS:b8 scope X.N src NC) (I2:Inv X pins σ H2 s2) (T:Turn X.prog X.w X.K tg J fp it tn) (qS:tn 0 s2.heap) (f2:∀b∈fp,fR X pins H2 b)
  (hg:∀s H,PG (dN X scope NC fp s H) tg g) (ht:∀s H,qI (dN X scope NC fp s H) ifs tt) (he:∀s H,PE (dN X scope NC fp s H) elt te)
  (hW:∀D,H2 D=none→∃W:Nat→Nat→St→Hp→Prop,(∃m,W 0 m (ky src σ) (upd H2 D (.lst [])))∧∀i m gS H2,W i m gS H2→
   (J.stop i H2∧Q (.ref D) H2)∨
   (J.go i H2∧∃N:St→Hp→Prop,(∀aI H',N aI H'→∃m',m'<m∧W (i+1) m' aI H')∧∀x H3,J.yld i H2 x H3→g x gS H3 λjr H4=>tt jr H4 λb H5=>
    if b=true then te jr H5 λv H6=>∃ys,H6 D=some (.lst ys)∧ys.length<sizeLine∧N jr (upd H6 D (.lst (ys++ [v]))) else N jr H5))
  (Oh:∀D s3 H3 aI H' s',Inv X pins σ H3 s3→(∀b∈fp,fR X pins H3 b)→Inv (dN X scope NC fp s3 H3) [] aI H' s'→Q (.ref D) H'→RR (.ref D) s3.heap.objs.size (.ok .next) s'):
  wpAny (model X.prog X.w) X.A (newList []) (λacc L6=>wpAny (model X.prog X.w) X.A (newFunctionEnv scope X.env.globals (gY X.env scope.names []) [] X.env.qual none .none (some X.env)) (λtT Bk=>
   codeAny (model X.prog X.w) X.A (.compStart (.ListComp elt [⟨tg,iter,ifs,0⟩] scope pos) 0 (.ref it) acc {tT with scope:=relabel scope X.env}) (RR acc tT.locals) Bk) E L6) E s2:=by
 obtain ⟨W,⟨m0,w0⟩,turn⟩:=hW s2.heap.objs.size I2.fresh;have I3:Inv X pins σ (upd H2 s2.heap.objs.size (.lst [])) {s2 with heap:=s2.heap.push {cls:= .type "list",data:= .seq ([]:List Value).toArray}}:=I2.Al (its:= []) (t':=s2.toks) .nil (fI _)
 have QS:∀b∈fp,b<s2.heap.objs.size:=λb hb=>by
  obtain ⟨o,e,_⟩:=T.obj _ _ qS b hb;exact Heap.lt_size e
 have f3:∀b∈fp,fR X pins (upd H2 s2.heap.objs.size (.lst [])) b:=λb hb=>⟨by rw [ax (cn (QS b hb))];exact (f2 b hb).1,(f2 b hb).2⟩
 refine wpAny_newObj_type ?_
 suffices key:∀s3:Shared,Inv X pins σ (upd H2 s2.heap.objs.size (.lst [])) s3→(∀b o,s2.heap.get? b=some o→s3.heap.get? b=some o)→
   wpAny (model X.prog X.w) X.A (newFunctionEnv scope X.env.globals (gY X.env scope.names []) [] X.env.qual none .none (some X.env)) (λtT Bk=>
    codeAny (model X.prog X.w) X.A (.compStart (.ListComp elt [⟨tg,iter,ifs,0⟩] scope pos) 0 (.ref it) (.ref s2.heap.objs.size) {tT with scope:=relabel scope X.env}) (RR (.ref s2.heap.objs.size) tT.locals) Bk) E s3 from
  key _ I3 λb o e=>Heap.get?_push_of_some _ e
 intro s3 I3 Se;have Bh:tn 0 s3.heap:=T.keep _ _ _ qS λb _ o e=>Se b o e
 have F6:∀b∈fp,b<s3.heap.objs.size:=λb hb=>by
  obtain ⟨o,e,_⟩:=T.obj _ _ Bh b hb;exact Heap.lt_size e
 generalize SH:upd H2 s2.heap.objs.size (.lst [])=H3 at I3 f3 w0;refine wpAny_newFunctionEnv c.nocell (by intro y hy;simp at hy) (λh1 vO yn=>?_) c.kind
 have I4:=xQ (src:=src) (NC:=NC) (ex:=fp) (tk:=s3.toks+([]:List (Str×Value)).length) I3 c dS f3 F6 vO yn;have L3:tn 0 h1:=T.keep _ _ _ Bh λb hb o e=>yn.extBut b o (cn (F6 b hb)) (Heap.get?_push_of_some _ e);generalize hX:dN X scope NC fp s3 H3=XC at I4
 have stat:∀{H':Hp},(∀b∈fp,H' b=none)→∀b∈fp,fR XC [] H' b:=λ {H'} hn b hb=>by
  subst hX;refine ⟨hn b hb,cn (F6 b hb),λz=>?_, .inl hb,λx d e=>?_,λp hp=>absurd (show p∈([]:List (Addr×Obj)) from hp) (by simp)⟩
  ·exact (I4.ok.exfs b hb) z
  ·exact (I4.ok.exf b hb).2 x d e
 have loop:codeAny (model X.prog X.w) X.A (.compLoop (.ListComp elt [⟨tg,iter,ifs,0⟩] scope pos) 0 (.ref it) (.ref s2.heap.objs.size) XC.env) (RR (.ref s2.heap.objs.size) s3.heap.objs.size)
   {s3 with heap:=h1,toks:=s3.toks+([]:List (Str×Value)).length}:=by
  refine codeAny_loop rfl (λn s'=>∃i aI H',Inv XC [] aI H' s'∧tn i s'.heap∧(∀b∈fp,H' b=none)∧W i n aI H') (λn s' hI=>?_) m0 ⟨0,_,_,I4,L3,λb hb=>(f3 b hb).1,w0⟩;obtain ⟨i,aI,H',I5,yO,BW,w5⟩:=hI;show wpAny _ X.A ((compTurn (.ListComp elt [⟨tg,iter,ifs,0⟩] scope pos) 0 (.ref it) (.ref s2.heap.objs.size) XC.env).onRaise (λx=>do noteFrame x XC.env;theTreesLotGoes x)) _ _ s'
  refine wpAny_noted ?_;rw [compTurn_list]
  have qa:∀{α:Type}{t:Sem α}{Q:α→Shared→Prop}{E:Value→Shared→Prop}{s:Shared},wpAny (model XC.prog XC.w) XC.A t Q XC.xe s→wpAny (model X.prog X.w) X.A t Q E s:=λ {α t Q E s} h=>by
   subst hX;exact wpAny_mono h (λ_ _ q=>q) λ_ _ f=>f.elim
  have Jm:XC.calm=true:=by subst hX;exact hc
  have eP:XC.prog=X.prog:=by subst hX;rfl
  have ew:XC.w=X.w:=by subst hX;rfl
  have eK:XC.K=X.K:=by subst hX;rfl
  have eA:XC.A=X.A:=by subst hX;rfl
  have OA:PG XC tg g:=by subst hX;exact hg _ _
  have OZ:qI XC ifs tt:=by subst hX;exact ht _ _
  have Ow:PE XC elt te:=by subst hX;exact he _ _
  refine wpAny_bind (wpAny_standAt (wpAny_bind ?_))
  rcases turn i n aI H' w5 with ⟨stop,qn⟩ | ⟨go,N,hN,step⟩
  ·have hd:=T.done XC eP ew eK Jm i [] s' aI H' (notedBy (model X.prog X.w) X.A XC.env λe s'=>RR (.ref s2.heap.objs.size) s3.heap.objs.size (.error e) s') I5 (stat BW) yO stop
   rw [eA] at hd;refine thn hd λr s6 ⟨hr,I6⟩=>?_;subst hr;refine wpAny_pure ?_;subst hX;exact Oh _ s3 H3 aI H' s6 I3 f3 I6 qn
  ·have hd:=T.item XC eP ew eK Jm i [] s' aI H' (notedBy (model X.prog X.w) X.A XC.env λe s'=>RR (.ref s2.heap.objs.size) s3.heap.objs.size (.error e) s') I5 (stat BW) yO go
   rw [eA] at hd;refine thn hd λr s6 ⟨u,hr,h6⟩=>?_;subst hr;refine wpAny_bind (thn h6 λ_ s7 ⟨x,H7,I7,r7,y7,Gy,N9⟩=>?_);have Mz:=I7.pinned (stat N9) (T.obj _ _ Gy)
   have again:∀{qV:St}{H8:Hp}{s8:Shared},Inv XC ([]++lX fp s7.heap) qV H8 s8→N qV H8→∃m,m<n∧∃i aI H',Inv XC [] aI H' s8∧tn i s8.heap∧(∀b∈fp,H' b=none)∧W i m aI H':=λ {qV H8 s8} I8 n8=>by
    obtain ⟨m',hm,w8⟩:=hN qV H8 n8;refine ⟨m',hm,i+1,qV,H8,I8.ke,T.keep _ _ _ Gy λb hb o e=>(I8.pin (b,o) (dX _ (dX _ (hU hb e)))).1,λb hb=>?_,w8⟩;obtain ⟨o,e,d⟩:=T.obj _ _ Gy b hb;exact (I8.pin (b,o) (dX _ (dX _ (hU hb e)))).2.1
   refine wpAny_bind (qa (thn (OA _ s7 aI H7 x u _ Mz r7 (step x H7 y7)) λ_ s8 ⟨qV,H8,I8,q8⟩=>?_));refine wpAny_bind (qa (thn (OZ _ s8 qV H8 _ I8 q8) λb s9 ⟨H9,I9,q9⟩=>?_));cases b with
   |false=>
    rw [if_neg dP] at q9;exact wpAny_pure ⟨by subst hX;rfl,again I9 q9⟩
   |true=>
    rw [if_pos rfl] at q9;refine wpAny_bind (wpAny_bind (qa (thn (Ow _ s9 qV H9 _ I9 q9) λy RX ⟨v,Mw,Mx,RU,ys,hD,hz,RS⟩=>?_)));refine wpAny_bind (qa (thn (kP _ RX qV Mw (.ref s2.heap.objs.size) [v] _ [y] (λ_ H'=>N qV H') Mx rfl (.cons RU .nil) ⟨_,ys,v,rfl,rfl,hD,hz,RS⟩) λ_ S0 ⟨_,Sx,My,_,RT⟩=>?_));exact wpAny_pure (wpAny_pure ⟨by subst hX;rfl,again My RT⟩)
 subst hX;exact codeAny_compStart_list loop (T.self _ 0 _ _ _ L3 loop)
theorem AG(hc:X.calm=true)(c:bG X scope)(dS:b8 scope X.N src NC)(hi:PI X tg iter wi)
  (hg:∀ex s H,PG (dN X scope NC ex s H) tg g) (ht:∀ex s H,qI (dN X scope NC ex s H) ifs tt) (he:∀ex s H,PE (dN X scope NC ex s H) elt te)
  (hs:∀x,foldedSetIterable iter X.env x=pure x:=by intro _;rfl):PE X (.ListComp elt [⟨tg,iter,ifs,0⟩] scope pos) (Bl wi g tt te src):=by
 intro pins s σ H Q I h;rw [eval_ListComp];refine wpAny_comprehension_free (use:=none) rfl hs (iC (c.cells I.ok)) c.kind c.names (thn (hi pins s σ H _ I h) λv s1 h1=>thn h1 λB9 s2 h2=>?_);obtain ⟨it,fp,tn,J,H2,rfl,I2,T,qS,f2,hW⟩:=h2;refine nB (RR:=λacc C=>compPost (model X.prog X.w) X.A X.xe none (EP X pins σ Q) acc C) (Q:=Q) hc c dS I2 T qS f2 (hg fp) (ht fp) (he fp) hW ?_;intro D s3 H3 aI H' s' I3 f3 J' q;obtain ⟨m,hn,_⟩:=J'.loc;exact ⟨m,hn,λh' sb=>⟨.ref D,H',comp_back I3 f3 J' sb,rfl,q⟩⟩
def Dc(wi:TI)(g:TG)(tt:TT)(te:TE)(src:List (Option Nat))(i:Nat):TS:=λD σ H=>Bl wi g tt te src σ H λv H'=>D.nx (σ.set i (some v)) H'
theorem j7{i:Nat}{x:Str}{px hZ:Pos}(hc:X.calm=true)(hN:X.N.Nodup)(qM:X.N[i]? =some x)(hx:Loc X.env.scope x)(c:bG X scope)(dS:b8 scope X.N src NC)(hi:PI X tg iter wi)
  (hg:∀ex s H,PG (dN X scope NC ex s H) tg g) (ht:∀ex s H,qI (dN X scope NC ex s H) ifs tt) (he:∀ex s H,PE (dN X scope NC ex s H) elt te)
  (iY:swapsWith (.ListComp elt [⟨tg,iter,ifs,0⟩] scope pos) (some (.Name x px)) hZ.line X.env=pure true)
  (hf:X.fn x=true∨X.env.scope.names.lookup x=some .local:=by first|exact .inl rfl|exact .inr rfl|assumption)
  (hs:∀x,foldedSetIterable iter X.env x=pure x:=by intro _;rfl):PS X (.Assign [.Name x px] (.ListComp elt [⟨tg,iter,ifs,0⟩] scope pos) hZ) (Dc wi g tt te src i):=by
 intro pins s σ H D I h;rw [exec_Assign_Name_used _ _ _ _ iY];refine wpAny_bind (wpAny_standAt (wpAny_bind ?_));show wpAny _ X.A (do let _ ←comprehension (.ListComp elt [⟨tg,iter,ifs,0⟩] scope pos) scope X.env _ (newList []) false (eval iter X.env) (some (assign (.Name x px) X.env))) _ _ s
 refine wpAny_bind (wpAny_mono (wpAny_comprehension_free (use:=some (assign (.Name x px) X.env)) (Q:=λ_ s'=>SP X pins D .next s') rfl hs (iC (c.cells I.ok)) c.kind c.names
  (thn (hi pins s σ H _ I h) λv s1 h1=>thn h1 λB9 s2 h2=>?_)) (λ_ s' hq=>wpAny_pure (wpAny_pure hq)) λ_ _ e=>e)
 obtain ⟨it,fp,tn,J,H2,rfl,I2,T,qS,f2,hW⟩:=h2;refine nB (RR:=λacc C=>compPost (model X.prog X.w) X.A X.xe (some (assign (.Name x px) X.env)) (λ_ s'=>SP X pins D .next s') acc C) (Q:=λv H'=>D.nx (σ.set i (some v)) H') hc c dS I2 T qS f2 (hg fp) (ht fp) (he fp) hW ?_;intro a s3 H3 aI H' s' I3 f3 J' q;obtain ⟨m,hn,_⟩:=J'.loc;have IX:Inv X pins σ H' s':=comp_back I3 f3 J' (.refl ..);show wpAny _ X.A (assign (.Name x px) X.env (.ref a)) _ _ _;have nL:s3.heap.objs.size≠X.env.locals:=Nat.ne_of_gt I3.lt
 have nc:∀y d,X.env.cells.lookup y=some d→d≠s3.heap.objs.size:=λy d e z=>by
  obtain ⟨v,hv⟩:=I3.cell y d e
  have:=hv.lt
  rw [z] at this;exact absurd this (jk _)
 have np:∀p∈X.pn++pins,p.1≠s3.heap.objs.size:=λp hp z=>by
  have:=Heap.lt_size (I3.pin p hp).1
  rw [z] at this;exact absurd this (jk _)
 obtain ⟨oC,es,ep,OR,BZ,rC⟩:=id hn;have Je:H' s3.heap.objs.size=none:=J'.free
 have IP:Inv X ((s3.heap.objs.size,oC)::pins) σ H' s':=IX.lY λp hp=>by
  rcases cV.mp hp with z|z
  ·rw [z]
   exact ⟨OR,Je,nL,I3.Ee (bC _),λv w=>by rw [BZ] at w;cases w⟩
  ·exact IX.pin p (dX _ z)
 refine wpAny_assign_Name (nu (x:=x) IP hN qM hx (v:= .ref a) rfl (λs5 I5=>?_) hf);have Of:=(I5.pin (s3.heap.objs.size,oC) (dX _ fQ)).1;refine ⟨m,⟨oC,es,ep,Of,BZ,rC⟩,λh6 sb=>?_⟩;have Eu:Inv X pins (σ.set i (some (.ref a))) H' s5:=I5.lY λp hp=>I5.pin p (dX _ (fJ _ hp));exact ⟨_,H',Eu.turned (t':=s5.toks) (it:=s3.heap.objs.size) (λb o hb e=>sb.extBut b o hb e) Je nL (.inr I3.sz) nc np,q⟩
end
section
variable {X:Cx} {pins:List (Addr×Obj)} {σ:St} {H:Hp} {s:Shared} {h':Heap} {fp:List Addr}
theorem Inv.uT{t':Nat}(I:Inv X pins σ H s)(hf:∀b∈fp,fR X pins H b)(k:∀b o,b∉fp→s.heap.get? b=some o→h'.get? b=some o):Inv X pins σ H {s with heap:=h',toks:=t'}:=by
 refine I.step (g':=s.gens) (d':=s.drawn) (ch:=fp) (λb hb=>?_) (λb o _ _ hc e _=>k b o hc e) (λb o _ _ hc e _=>⟨o.slots,k b o hc e⟩) (λ_ _ _ _ n=>n)
  (λb o hc e=>⟨o,k b o hc e⟩) (λ_ _ e=>e) (λ_ _ _ e=>e) (λb ps e=>⟨#[],by rw [e];simp⟩) (λm hm=>?_) (λb u e=>?_) I.bare
 ·obtain ⟨_,f1,_,f3,f4,f5⟩:=hf b hb
  exact ⟨f3,f1,f4,f5⟩
 ·obtain ⟨o,es,ep,ho,r⟩:=hm
  exact ⟨o,es,ep,k _ o (λz=>(hf _ z).2.1 rfl) ho,r⟩
 ·have nf:∀b u,H b=some u→b∉fp:=λb u e z=>by rw [(hf b z).1] at e;cases e
  refine (I.hok b u e).nX (λc v hc q=>k c v ?_ q) (λ_ q=>q) λ_ _ q=>q
  rcases hc with z|z
  ·rw [z];exact nf b u e
  ·exact nf c _ z
theorem Inv.Bq{t':Nat}{t:Addr}{o:HO}(I:Inv X pins σ H s)(hf:∀b∈fp,fR X pins H b)(k:∀b o,b∉fp→s.heap.get? b=some o→h'.get? b=some o)(ht:s.heap.objs.size≤t)
  (new:bR X.prog X.w (upd H t o) h' t o):Inv X pins σ (upd H t o) {s with heap:=h',toks:=t'}:=by
 have nt:H t=none:=I.hok.fresh ht;have up:∀b u,H b=some u→upd H t o b=some u:=λb u e=>by rw [ax (aS e nt)];exact e
 refine I.step (g':=s.gens) (d':=s.drawn) (ch:=fp) (λb hb=>?_) (λb o _ _ hc e _=>k b o hc e) (λb o _ _ hc e _=>⟨o.slots,k b o hc e⟩) (λb o _ e n=>?_)
  (λb o hc e=>⟨o,k b o hc e⟩) (λb xs e=>up b _ e) (λb _ _ e=>up b _ e) (λb ps e=>⟨#[],by rw [up b _ e];simp⟩) (λm hm=>?_) (λb u e=>?_) I.bare
 ·obtain ⟨_,f1,_,f3,f4,f5⟩:=hf b hb
  exact ⟨f3,f1,f4,f5⟩
 ·rw [ax (cn (eS (Heap.lt_size e) ht))];exact n
 ·obtain ⟨o,es,ep,ho,r⟩:=hm
  exact ⟨o,es,ep,k _ o (λz=>(hf _ z).2.1 rfl) ho,r⟩
 ·by_cases hb:b=t
  ·subst hb
   rw [av] at e;cases e;exact new
  ·rw [ax hb] at e
   have nf:∀b u,H b=some u→b∉fp:=λb u e z=>by rw [(hf b z).1] at e;cases e
   refine (I.hok b u e).nX (λc v hc q=>k c v ?_ q) (λb' q=>up b' _ q) λb' _ q=>up b' _ q
   rcases hc with z|z
   ·rw [z];exact nf b u e
   ·exact nf c _ z
end
def Ew(K:PySem.W.Frag)(a:Addr):It:=
 ⟨λi H=>∃xs x,bE K H a xs∧xs[i]? =some x,λi H y H'=>∃t x,y= .ref t∧H t=none∧H'=upd H t (.tup [.int i,x])∧∀xs,bE K H a xs→xs[i]? =some x,λi H=>∃xs,bE K H a xs∧xs.length≤i⟩
theorem uj{h:Heap}{t:Addr}{u v:Value}(e:h.get? t=some {cls:= .type "tuple",data:= .seq #[u,v]}):IsTup h t [u,v].toArray:=⟨_,e,rfl,_,rfl⟩
theorem wM{P:Program}{w:World}{K:PySem.W.Frag}{es:List Expr}{k1}{tp:Pos}(a e it:Addr)(ne:e≠it):
  Turn P w K (.Tuple es k1 tp) (Ew K a) [e,it] e (λi h=>(∃old,IsEnum h e it i old)∧h.IsListIter it a i) where
 mem:=by simp
 obj:=λi h st b hb=>by
  obtain ⟨⟨old,he⟩,o,e2,c,d⟩:=st
  rcases cV.mp hb with z|z
  ·subst z
   exact ⟨_,he,λv w=>by cases w⟩
  ·have z':b=it:=by simpa using z
   subst z';exact ⟨o,e2,λv z=>by rw [d] at z;cases z⟩
 keep:=λi h h' st k=>by
  obtain ⟨⟨old,he⟩,qS⟩:=st;exact ⟨⟨old,k e (by simp) _ he⟩,qS.at λo q=>k it (by simp) o q⟩
 item:=by
  intro X hP hw hK hc i pins s σ H E I hf st hg;subst hP hw hK;obtain ⟨xs,x,hq,hx⟩:=hg;obtain ⟨its,rv,p,hz⟩:=I.list hq;obtain ⟨u,hu,ru⟩:=rv.get hx;obtain ⟨⟨old,he⟩,hit⟩:=st;refine wpAny_pyNext_enum_item he hit p.isList (x:=u) (by simpa using hu) ne λh' zU zX OY Sr kk=>?_
  have k2:∀b o,b∉ [e,it]→s.heap.get? b=some o→h'.get? b=some o:=λb o hb q=>kk b o (λz=>hb (by simp [z])) (λz=>hb (by simp [z])) q
  have I1:Inv X pins σ (upd H s.heap.objs.size (.tup [.int i,x])) {s with heap:=h',toks:=s.toks+1}:=
   I.Bq hf k2 (bC _) ⟨by show 2≤sizeLine;decide,[.int i s.toks,u], .cons ⟨_,rfl⟩ (.cons ru .nil),uj OY⟩
  refine ⟨_,rfl,wpAny_letOwnedTupleGo_enum zU λh2 Ov sb=>?_⟩
  have lt:∀b∈ [e,it],b<s.heap.objs.size:=λb hb=>by
   rcases cV.mp hb with z|z
   ·rw [z];exact Heap.lt_size he
   ·obtain ⟨o,e2,_⟩:=hit
    have z':b=it:=by simpa using z
    rw [z'];exact Heap.lt_size e2
  have Jx:∀b∈ [e,it],fR X pins (upd H s.heap.objs.size (.tup [.int i,x])) b:=λb hb=>⟨by rw [ax (cn (lt b hb))];exact (hf b hb).1,(hf b hb).2⟩
  refine ⟨.ref s.heap.objs.size,_,I1.uT (t':=s.toks+1) Jx (λb o hb q=>sb.extBut b o (λz=>hb (by simp [z])) q),rfl,⟨_,x,rfl,I.hok.fresh (bC _),rfl,λys hy=>by rw [I.mT hy hq];exact hx⟩,⟨⟨u,?_⟩,zX.extBut sb.extBut (Ne.symm ne)⟩,λb hb=>(Jx b hb).1⟩
  have z:((i+1:Nat):Int)=(i:Int)+1:=by omega
  rw [z];exact Ov
 done:=by
  intro X hP hw hK hc i pins s σ H E I hf st hg;subst hP hw hK;obtain ⟨xs,hq,hx⟩:=hg;obtain ⟨its,rv,p,hz⟩:=I.list hq;have hl:=rv.length;obtain ⟨⟨old,he⟩,hit⟩:=st;exact wpAny_pyNext_enum_end (I.ok.hd hc) he hit p.isList (by simp;omega) λh' eb=>⟨rfl,I.uT (t':=s.toks) hf λb o hb q=>eb b o (λz=>hb (by simp [z])) q⟩
 self:=λ_ _ _ _ _ st h=>by
  obtain ⟨⟨old,he⟩,_⟩:=st;exact wpAny_pyIter_enum he h
section
variable {X:Cx}
def F0(K:PySem.W.Frag)(ta:TA):TI:=λσ H R=>ta σ H λvs H1=>∃a,vs= [.ref a]∧(∃xs,H1 a=some (.lst xs))∧R (Ew K a) H1
theorem AK{a:Expr}{ta:TA}{p pos:Pos}{es:List Expr}{k1}{tp:Pos}(hg:Gl X "enumerate")(hm:X.mg "enumerate"=none)(ha:PA X [a] ta)(hs:starEach [a] X.env= [(false,eval a X.env)]:=by rfl):
  PI X (.Tuple es k1 tp) (.Call (.Name "enumerate" p) [a] [] pos) (F0 X.K ta):=by
 intro pins s σ H R I h;refine Call_ (fh I hg hm boot_enumerate (PyProof.Rows.callWith_type1 (thn (ha pos pins s σ H _ I h) λus s1 ⟨vs,H1,I1,r1,q1⟩=>?_) hs rfl));obtain ⟨l,e,⟨xs,hl⟩,q⟩:=q1;subst e;obtain ⟨u,rfl,ru⟩:=r1.one;cases ru;obtain ⟨z,its,n,rv,hlen,e⟩:=I1.km hl;refine call_enumerate_1 e λh' he hit oy kk=>?_;refine wpAny_pyIter_enum he ?_;have z1:s1.heap.objs.size+1≠s1.heap.objs.size:=Nat.succ_ne_self _;refine ⟨s1.heap.objs.size+1,[s1.heap.objs.size+1,s1.heap.objs.size],_,_,H1,rfl,I1.kept (t':=s1.toks) kk,wM l _ _ z1,⟨⟨_,he⟩,hit⟩,λb hb=>?_,q⟩
 have kI:s1.heap.objs.size≤b:=by
  rcases cV.mp hb with z|z
  ·rw [z];exact Nat.le_succ _
  ·have z':b=s1.heap.objs.size:=by simpa using z
   rw [z'];exact bC _
 exact I1.xb kI (I1.hok.fresh kI)
end
end L2
namespace Wb
abbrev W:=List (List Nat)
def row(w:W)(p:Nat):List Nat:=w.getD p []
inductive Reach (w:W):Nat→Nat→Prop
 |refl (p):Reach w p p
 |step {p q r}:Reach w p q→r∈row w q→Reach w p r
structure Good (w:W):Prop where
 rng:∀p q,q∈row w p→q<w.length
 irr:∀p,p∉row w p
 nod:∀p,(row w p).Nodup
 sym:∀p q,q∈row w p→p∈row w q
 con:∀p,p<w.length→Reach w 0 p
theorem bN{w:W}{p q:Nat}(h:q∈row w p):p<w.length:=by
 apply Classical.byContradiction;intro hn;unfold row at h;rw [cP,h8 (by omega)] at h
 simp at h
theorem A3{w:W}{p:Nat}(h:p<w.length):w[p]? =some (row w p):=by
 unfold row;rw [cP,eN h];rfl
theorem C1{w:W}{p:Nat}{r:List Nat}(h:w[p]? =some r):row w p=r:=by
 unfold row;rw [cP,h];rfl
theorem A4{w:W}{p:Nat}(h:w.length≤p):row w p= []:=by
 unfold row;rw [cP,h8 h];rfl
theorem Reach.trans{w:W}{p q r:Nat}(h:Reach w p q)(h':Reach w q r):Reach w p r:=by
 induction h' with
 |refl=>exact h
 |step _ hr ih=>exact .step ih hr
theorem Reach.symm{w:W}(hs:∀p q,q∈row w p→p∈row w q){p q:Nat}(h:Reach w p q):Reach w q p:=by
 induction h with
 |refl=>exact .refl _
 |step _ hr ih=>exact (Reach.step (.refl _) (hs _ _ hr)).trans ih
def ins{α:Type}(xs:List α)(i:Nat)(x:α):List α:=xs.take i++x::xs.drop i
theorem mM{α:Type}(xs:List α)(i:Nat)(x:α):(ins xs i x).Perm (x::xs):=by
 unfold ins;have h:= @List.perm_middle _ x (xs.take i) (xs.drop i);rw [xJ] at h;exact h
theorem uu{α:Type}{xs:List α}{i:Nat}{x a:α}:a∈ins xs i x↔a=x∨a∈xs:=by
 rw [(mM xs i x).mem_iff,cV]
theorem p9{α:Type}{xs:List α}{i:Nat}{x:α}(h:xs.Nodup)(hx:x∉xs):(ins xs i x).Nodup:=by
 rw [(mM xs i x).nodup_iff,jj];exact ⟨hx,h⟩
theorem pS{α:Type}(xs:List α)(i:Nat)(x:α):(ins xs i x).length=xs.length+1:=by
 rw [(mM xs i x).length_eq];rfl
theorem uI{w:W}{p x:Nat}{r:List Nat}(h:p<w.length):row (w.set p r) x=if p=x then r else row w x:=by
 unfold row;rw [cP,n6]
 by_cases e:p=x
 ·rw [if_pos e,if_pos e,if_pos h];rfl
 ·rw [if_neg e,if_neg e,cP]
theorem yd{w w':W}{ord:Nat→Nat}(g:Good w)(hl:w'.length=w.length)(into:∀p,p<w.length→ord p<w.length)
  (inj:∀p q,p<w.length→q<w.length→ord p=ord q→p=q) (yQ:∀y,y<w.length→∃p,p<w.length∧ord p=y)
  (Eb:∀p,p<w.length→(row w' (ord p)).Perm ((row w p).map ord)):Good w':=by
 have mem:∀p q,p<w.length→(q∈row w' (ord p)↔∃a,a∈row w p∧ord a=q):=λp q hp=>by
  rw [(Eb p hp).mem_iff,eO]
 have reach:∀{p q},Reach w p q→Reach w' (ord p) (ord q):=λ {p q} h=>by
  induction h with
  |refl=>exact .refl _
  |step _ hr ih=>exact .step ih ((mem _ _ (bN hr)).mpr ⟨_,hr,rfl⟩)
 refine ⟨λy q hy=>?_,λy hy=>?_,λy=>?_,λy q hy=>?_,λy hy=>?_⟩
 ·obtain ⟨p,hp,rfl⟩:=yQ y (by have:=bN hy;omega)
  obtain ⟨a,ha,rfl⟩:=(mem p q hp).mp hy;rw [hl];exact into a (g.rng _ _ ha)
 ·obtain ⟨p,hp,rfl⟩:=yQ y (by have:=bN hy;omega)
  obtain ⟨a,ha,e⟩:=(mem p _ hp).mp hy
  have:=inj a p (g.rng _ _ ha) hp e
  subst this;exact g.irr _ ha
 ·by_cases hy:y<w.length
  ·obtain ⟨p,hp,rfl⟩:=yQ y hy
   rw [(Eb p hp).nodup_iff];unfold List.Nodup;rw [n9];refine List.Pairwise.imp_of_mem ?_ (g.nod p);intro a b ha hb ne e;exact ne (inj a b (g.rng _ _ ha) (g.rng _ _ hb) e)
  ·rw [A4 (by omega)];exact fW
 ·obtain ⟨p,hp,rfl⟩:=yQ y (by have:=bN hy;omega)
  obtain ⟨a,ha,rfl⟩:=(mem p q hp).mp hy;exact (mem a _ (g.rng _ _ ha)).mpr ⟨p,g.sym _ _ ha,rfl⟩
 ·rw [hl] at hy
  obtain ⟨p,hp,rfl⟩:=yQ y hy;obtain ⟨z,hz,e0⟩:=yQ 0 (by omega)
  have h1:=reach (((g.con z hz).symm g.sym).trans (g.con p hp));rw [e0] at h1;exact h1
def i9(l:List Nat)(x:Nat):Nat:=l.getD ((l.idxOf x+1)%l.length) 0
def wa(w:W)(d:Nat×Nat):Nat×Nat:=(d.2,i9 (row w d.2) d.1)
def dj(w:W)(d:Nat×Nat):Prop:=d.2∈row w d.1
theorem kX{l:List Nat}{x:Nat}(h:x∈l):l[(l.idxOf x+1)%l.length]? =some (i9 l x):=by
 have hp:0<l.length:=rU h;unfold i9;rw [cP,eN (om _ hp)];rfl
theorem wH{l:List Nat}{x:Nat}(h:x∈l):i9 l x∈l:=eJ (kX h)
theorem Am{a b n:Nat}(ha:a<n)(hb:b<n)(e:(a+1)%n=(b+1)%n):a=b:=by
 by_cases h1:a+1=n
 ·by_cases h2:b+1=n
  ·omega
  ·rw [h1,Nat.mod_self,oe (by omega)] at e;omega
 ·by_cases h2:b+1=n
  ·rw [h2,Nat.mod_self,oe (by omega)] at e;omega
  ·rw [oe (by omega),oe (by omega)] at e;omega
theorem wG{l:List Nat}{x y:Nat}(nd:l.Nodup)(hx:x∈l)(hy:y∈l)(e:i9 l x=i9 l y):x=y:=by
 have hp:0<l.length:=rU hx;have h1:=kX hx;have h2:=kX hy;rw [e] at h1;have lx:=rS.mpr hx;have ly:=rS.mpr hy;obtain ⟨a1,b1⟩:=eo.mp h1;obtain ⟨a2,b2⟩:=eo.mp h2;have q:=(List.getElem_inj nd).mp (b1.trans b2.symm);have q2:=Am lx ly q;have e1:=u4 lx;have e2:=u4 ly;rw [←e1,←e2];simp only [q2]
theorem yy{w:W}{d:Nat×Nat}(g:Good w)(h:dj w d):dj w (wa w d):=wH (g.sym _ _ h)
theorem qb{w:W}{d e:Nat×Nat}(g:Good w)(h:dj w d)(h':dj w e)(q:wa w d=wa w e):d=e:=by
 have e2:d.2=e.2:=congrArg Prod.fst q;have e1:i9 (row w d.2) d.1=i9 (row w e.2) e.1:=congrArg Prod.snd q;rw [←e2] at e1;have h1:d.1∈row w d.2:=g.sym _ _ h;have h2:e.1∈row w d.2:=by rw [e2];exact g.sym _ _ h'
 exact Prod.ext (wG (g.nod _) h1 h2 e1) e2
def pD(w:W):List (Nat×Nat):=(List.range w.length).flatMap λp=>(row w p).map λq=>(p,q)
theorem kO{w:W}{d:Nat×Nat}:d∈pD w↔dj w d:=by
 unfold pD dj;rw [List.mem_flatMap]
 constructor
 ·rintro ⟨p,_,h⟩
  obtain ⟨q,hq,rfl⟩:=eO.mp h;exact hq
 ·intro h
  exact ⟨d.1,cN.mpr (bN h),eO.mpr ⟨d.2,h,rfl⟩⟩
theorem aR{α:Type} [DecidableEq α]:∀{l m:List α},l.Nodup→(∀x∈l,x∈m)→l.length≤m.length
 | [],_,_,_=>fI _
 |a::r,m,nd,h=>by
  have uw:=jj.mp nd;have am:=h a fQ;have ih:=aR (l:=r) (m:=m.erase a) uw.2 λx hx=>(List.mem_erase_of_ne (λ(e:x=a)=>uw.1 (by rw [←e];exact hx))).mpr (h x (fJ _ hx))
  rw [List.length_erase_of_mem am] at ih
  have:=rU am
  simp only [dY];omega
theorem fE{w:W}(g:Good w)(p:Nat):(row w p).length≤w.length:=by
 have:=aR (m:=List.range w.length) (g.nod p) λx hx=>cN.mpr (g.rng _ _ hx)
 simpa using this
theorem rd{α β:Type}{f:α→List β}{k:Nat}:∀{l:List α},(∀x∈l,(f x).length≤k)→(l.flatMap f).length≤l.length*k
 | [],_=>by simp
 |a::r,h=>by
  have ih:=rd (f:=f) (k:=k) (l:=r) λx hx=>h x (fJ _ hx)
  have:=h a fQ
  rw [List.flatMap_cons,cK,dY,Nat.succ_mul];omega
theorem kE{w:W}(g:Good w):(pD w).length≤w.length*w.length:=by
 have:=rd (f:=λp=>(row w p).map λq=>(p,q)) (k:=w.length) (l:=List.range w.length) λx _=>by rw [aW];exact fE g x
 rw [kA] at this;exact this
def bf(w:W):Nat→Nat×Nat→Nat×Nat
 |0,d=>d
 |n+1,d=>wa w (bf w n d)
theorem bT{w:W}{d:Nat×Nat}(g:Good w)(h:dj w d):∀n,dj w (bf w n d)
 |0=>h
 |n+1=>yy g (bT g h n)
theorem pV{w:W}{d:Nat×Nat}(m:Nat):∀n,bf w (n+m) d=bf w n (bf w m d)
 |0=>by rw [mB];rfl
 |n+1=>by rw [Nat.succ_add];show wa w (bf w (n+m) d)=wa w (bf w n (bf w m d));rw [pV m n]
theorem pW{w:W}{d e:Nat×Nat}(g:Good w)(h:dj w d)(h':dj w e):∀n,bf w n d=bf w n e→d=e
 |0,q=>q
 |n+1,q=>pW g h h' n (qb g (bT g h n) (bT g h' n) q)
def walk(w:W)(d:Nat×Nat)(k:Nat):List (Nat×Nat):=(List.range k).map λi=>bf w i d
theorem qw(w:W)(d:Nat×Nat)(k:Nat):walk w d (k+1)=walk w d k++ [bf w k d]:=by
 unfold walk;rw [List.range_succ,cM];rfl
theorem gq(w:W)(d:Nat×Nat)(k:Nat):(walk w d k).length=k:=by unfold walk;simp
theorem kZ{w:W}{d:Nat×Nat}(g:Good w)(h:dj w d){k:Nat}:∀e∈walk w d k,dj w e:=λe he=>by
 obtain ⟨i,_,rfl⟩:=eO.mp he;exact bT g h i
theorem nY{w:W}{d:Nat×Nat}(g:Good w)(h:dj w d){k:Nat}(hk:∀j,0<j→j<k→bf w j d≠d):(walk w d k).Nodup:=by
 unfold walk List.Nodup;rw [n9];refine List.Pairwise.imp_of_mem ?_ List.pairwise_lt_range;intro i j hi hj lt e;have OE:=cN.mp hj;have e2:bf w i d=bf w i (bf w (j-i) d):=by rw [←pV (j-i) i,show i+(j-i)=j by omega];exact e
 exact hk (j-i) (by omega) (by omega) (pW g h (bT g h _) i e2).symm
theorem uU{w:W}{d:Nat×Nat}(g:Good w)(h:dj w d){k:Nat}(hk:∀j,0<j→j<k→bf w j d≠d):k≤(pD w).length:=by
 have:=aR (m:=pD w) (nY g h hk) λe he=>kO.mpr (kZ g h e he)
 rwa [gq] at this
theorem nA{w:W}(g:Good w){S:Nat→Prop}(h0:S 0)(hc:∀p q,S p→q∈row w p→S q):∀p,p<w.length→S p:=λp hp=>by
 have:∀{a b},Reach w a b→S a→S b:=λ {a b} h ha=>by
  induction h with
  |refl=>exact ha
  |step _ hr ih=>exact hc _ _ ih hr
 exact this (g.con p hp) h0
end Wb
namespace L2
open PySem PySem.Spec PyProof.Rows
section
variable {X:Cx}
def CY(K:PySem.W.Frag):V→List V→Hp→VK→Prop:=λx vs H Q=>∃(l:Addr)(xs:List V)(y:V)(j:Nat)(z:V),x= .ref l∧vs= [y]∧H l=some (.lst xs)∧eY y=true∧xs.all eY=true∧xs[j]? =some z∧pK z y=true∧
 (∀(m:Nat) z,m<j→xs[m]? =some z→pK z y=false)∧Q (.int j) H
theorem yw:yY X "list.index" (CY X.K):=by
 intro pins s σ H x vs v us Q I rx rv h;obtain ⟨l,xs,y,j,z,rfl,rfl,hH,fy,fs,hz,ez,FU,q⟩:=h;cases rx;obtain ⟨u,rfl,ru⟩:=rv.one;obtain ⟨oy,its,n,r,hl,e⟩:=I.km hH;obtain ⟨w,hw,A5⟩:=r.get hz
 have hj:j<its.toArray.size:=by
  obtain ⟨h1,_⟩:=eo.mp hw;simpa using h1
 have flat:∀(m:Nat) z,xs[m]? =some z→eY z=true:=λm z h=>(List.all_eq_true.mp fs) z (eJ h)
 have O3:its.toArray[j]=w:=by
  obtain ⟨h1,h2⟩:=eo.mp hw;simpa using h2
 have eC:=j5
 have OE:j<xs.length:=by
  obtain ⟨h1,_⟩:=eo.mp hz;exact h1
 refine call_meets F.slot_list_index ⟨_,e,rfl⟩ F.entry_list_index (F.args_list_index_2 _ _) (SeqAt.list_indexAt l its.toArray n none #[] u (kg y) j hj (by omega) ?_ ?_) ⟨e,λw hw=>gj ru fy r fs w (by simpa using hw),?_⟩
 ·rw [O3,oK A5 (flat j z hz)];exact ez
 ·intro m hm yk
  have vM:m<its.length:=by simpa using hm
  obtain ⟨zm,FZ⟩:∃zm,xs[m]? =some zm:=⟨_,eN (by omega)⟩
  obtain ⟨wm,O4,RW⟩:=r.get FZ
  have N6:its.toArray[m]=wm:=by
   obtain ⟨h1,h2⟩:=eo.mp O4;simpa using h2
  rw [N6,oK RW (flat m zm FZ)];exact FU m zm yk FZ
 ·exact ⟨.int j,H,I.tok _,⟨_,rfl⟩,q⟩
end
mutual
inductive Dp (K:PySem.W.Frag) (H:Hp):V→PyData→Prop
 |aT:Dp K H .aT .none
 |bl (b:Bool):Dp K H (.bl b) (.bool b)
 |int (i:Int):Dp K H (.int i) (.int i)
 |str (x:Str) (h:PyData.strOk x=true):Dp K H (.str x) (.str x)
 |lst {a:Addr} {xs:List V} {ds:List PyData}:bE K H a xs→cQ K H xs ds→Dp K H (.ref a) (.list ds)
 |tup {a:Addr} {xs:List V} {ds:List PyData}:ed K H a xs→cQ K H xs ds→Dp K H (.ref a) (.tuple ds)
inductive cQ (K:PySem.W.Frag) (H:Hp):List V→List PyData→Prop
 |nil:cQ K H [] []
 |cons {v:V} {vs:List V} {d:PyData} {ds:List PyData}:Dp K H v d→cQ K H vs ds→cQ K H (v::vs) (d::ds)
end
section
variable {X:Cx} {pins:List (Addr×Obj)} {σ:St} {H:Hp} {s:Shared}
mutual
theorem Dp.reads(I:Inv X pins σ H s):∀{v:V}{d:PyData}{u:Value},Dp X.K H v d→RelV v u→(∃as,Reads s.heap u d as)∧d.canLay0=true
 |_,_,_, .aT,r=>by cases r;exact ⟨⟨_, .none⟩,rfl⟩
 |_,_,_, .bl b,r=>by cases r;exact ⟨⟨_, .bool b⟩,rfl⟩
 |_,_,_, .int i,r=>by obtain ⟨t,rfl⟩:=r;exact ⟨⟨_, .int i t⟩,rfl⟩
 |_,_,_, .str x h,r=>by obtain ⟨t,rfl⟩:=r;exact ⟨⟨_, .str x t⟩,by simpa [PyData.canLay0] using h⟩
 |_,_,_, .lst h a,r=>by
  cases r;obtain ⟨its,rv,pl,hz⟩:=I.list h;obtain ⟨⟨as,ra⟩,c⟩:=cQ.reads I a rv;obtain ⟨o,ho,hc,n,hd⟩:=pl.isList;exact ⟨⟨_, .list ho hc hd (by simpa using ra)⟩,by simpa [PyData.canLay0] using c⟩
 |_,_,_, .tup h a,r=>by
  cases r;obtain ⟨its,rv,pl,hz⟩:=I.tuple h;obtain ⟨⟨as,ra⟩,c⟩:=cQ.reads I a rv;obtain ⟨o,ho,hc,n,hd⟩:=pl;exact ⟨⟨_, .tuple ho hc hd (by simpa using ra)⟩,by simpa [PyData.canLay0] using c⟩
theorem cQ.reads(I:Inv X pins σ H s):∀{vs:List V}{ds:List PyData}{us:List Value},cQ X.K H vs ds→Vals vs us→(∃as,ReadsAll s.heap us ds as)∧PyData.canLayAll0 ds=true
 |_,_,_, .nil, .nil=>⟨⟨_, .nil⟩,by simp [PyData.canLayAll0]⟩
 |_,_,_, .cons a as, .cons r rs=>by
  obtain ⟨⟨x,h1⟩,c1⟩:=Dp.reads I a r;obtain ⟨⟨y,h2⟩,c2⟩:=cQ.reads I as rs;exact ⟨⟨_, .cons h1 h2⟩,by simp [PyData.canLayAll0,c1,c2]⟩
end
end
section
variable {X:Cx}
def Lx(K:PySem.W.Frag):R2:=λx y H Q=>∃d e,Dp K H x d∧Dp K H y e∧d.depth≤64∧Q (.bl (PyData.eqv d e)) H
def LA(K:PySem.W.Frag):R2:=λx y H Q=>∃d e,Dp K H x d∧Dp K H y e∧d.depth≤64∧Q (.bl (!PyData.eqv d e)) H
theorem Cv(hu:X.A.units+64<cLine):OpR X (compareOp .Eq) (Lx X.K):=by
 intro pins s σ H x y v u Q I rx ry h;obtain ⟨d,e,hd,he,hz,q⟩:=h;obtain ⟨⟨as,r1⟩,c1⟩:=hd.reads I rx;obtain ⟨⟨bs,r2⟩,c2⟩:=he.reads I ry;exact SeqAt.compareEq_reads r1 r2 c1 c2 (by have:=Nat.min_le_left d.depth e.depth;omega) ⟨.bl _,H,I,rfl,q⟩
theorem CA(hu:X.A.units+64<cLine):OpR X (compareOp .NotEq) (LA X.K):=by
 intro pins s σ H x y v u Q I rx ry h;obtain ⟨d,e,hd,he,hz,q⟩:=h;obtain ⟨⟨as,r1⟩,c1⟩:=hd.reads I rx;obtain ⟨⟨bs,r2⟩,c2⟩:=he.reads I ry;exact SeqAt.compareNe_reads r1 r2 c1 c2 (by have:=Nat.min_le_left d.depth e.depth;omega) ⟨.bl _,H,I,rfl,q⟩
end
def nD(n:Nat):PyData:= .int n
def gI(r:List Nat):PyData:= .list (r.map nD)
theorem g8{α:Type}{f:α→PyData}(hf:∀a b,PyData.eqv (f a) (f b)=true↔a=b):∀xs ys:List α,PyData.eqvAll (xs.map f) (ys.map f)=true↔xs=ys
 | [],[]=>by simp [PyData.eqvAll]
 | [],_::_=>by simp [PyData.eqvAll]
 |_::_,[]=>by simp [PyData.eqvAll]
 |a::xs,b::ys=>by
  have ih:=g8 hf xs ys;simp [PyData.eqvAll,hf,ih]
theorem BR(a b:Nat):PyData.eqv (nD a) (nD b)=true↔a=b:=by
 simp [nD,PyData.eqv];omega
theorem j0(a b:List Nat):PyData.eqv (gI a) (gI b)=true↔a=b:=by
 unfold gI;rw [PyData.eqv];exact g8 BR a b
theorem fc{α:Type}{f:α→PyData}{k:Nat}(hf:∀a,(f a).depth≤k):∀xs:List α,PyData.depthAll (xs.map f)≤k
 | []=>by simp [PyData.depthAll]
 |a::xs=>by
  have:=hf a
  have ih:=fc hf xs;simp [PyData.depthAll];omega
theorem gZ(a:List Nat):(gI a).depth≤2:=by
 unfold gI;rw [PyData.depth]
 have:=fc (f:=nD) (k:=1) (λn=>by simp [nD,PyData.depth]) a
 omega
def mi(w:List (List Nat)):PyData:= .list (w.map gI)
theorem q0(a b:List (List Nat)):PyData.eqv (mi a) (mi b)=true↔a=b:=by
 unfold mi;rw [PyData.eqv];exact g8 j0 a b
theorem t4(a:List (List Nat)):(mi a).depth≤3:=by
 unfold mi;rw [PyData.depth]
 have:=fc (f:=gI) (k:=2) gZ a
 omega
end L2
namespace L2
open PySem PySem.Spec PyProof.Rows
theorem Vals.of_get:∀{xs:List V}{us:List Value},xs.length=us.length→(∀(k:Nat) x u,xs[k]? =some x→us[k]? =some u→RelV x u)→Vals xs us
 | [],[],_,_=> .nil
 | [],_::_,h,_=>by simp at h
 |_::_,[],h,_=>by simp at h
 |x::xs,u::us,h,r=> .cons (r 0 x u rfl rfl) (Vals.of_get (by simpa using h) λk y w h1 h2=>r (k+1) y w (by simpa using h1) (by simpa using h2))
section
variable {X:Cx}
theorem se:dJ X (.builtin "isinstance") (λxs H Q=>∃(x:V)(n:String)(t:Value)(b:Bool),xs= [x, .ty n]∧gX X.K H x t∧PySem.W.kitOne X.K t (.type n)=some b∧Q (.bl b) H):=by
 intro pins s σ H xs us Q I rv h;obtain ⟨x,n,t,b,rfl,ty,e,q⟩:=h;obtain ⟨u1,u2,rfl,r1,r2⟩:=rv.two;cases r2;exact vT I r1 ty e λtk=>⟨.bl b,H,I.tok _,rfl,q⟩
end
end L2
set_option maxHeartbeats 4000000
namespace L2
open PySem
theorem bG.of{X:Cx}{scope:Scope}(sc:Scope)(e:X.env.scope=sc)(k:scope.kind= .function)(a:∀x∈scope.names,x.2= .local→scope.names.lookup x.1=some .local)(b:∀x∈scope.names,x.2≠ .cell)
  (c:∀x∈scope.names,x.2= .free→sc.names.lookup x.1=some .cell∨sc.names.lookup x.1=some .free):bG X scope:=⟨k,a,b,λx hx hf=>by rw [←e] at c;exact c x hx hf⟩
structure dZ (K:PySem.W.Frag) (mg:Str→Option Value) (x:Str) (st:Stmt) (ps:List Str) where
 f:Addr
 fd:FuncData
 F:qH K x x st f fd
 b:Binds K fd ps []
 m:mg x=some (.ref f)
theorem aK{H:Hp}{p:Addr}(h:H p=none)(o:HO):aO H (upd H p o):=λb u q=>by rw [ax (aS q h)];exact q
theorem small{n:Nat}(h:n≤1000):n≤sizeLine:=rY (b4 h)
end L2
namespace PySem.SetTable
def ki(xs:Array Nat):Prop:=∀i j (hj:j<xs.size),i<j→xs[i]! <xs[j]!
theorem zN{xs:Array Nat}{i d:Nat}(h:i<xs.size):xs.getD i d=xs[i]! :=by
 simp [Array.getD,h]
theorem pO{xs:Array Nat}(R:ki xs)(j:Nat):∀(fuel lo hi:Nat),hi-lo≤fuel→lo≤hi→hi≤xs.size→(∀i,i<lo→xs[i]! <j)→(∀i,hi≤i→i<xs.size→j≤xs[i]!)→
  lo≤below.go xs j fuel lo hi∧below.go xs j fuel lo hi≤hi∧(∀i,i<below.go xs j fuel lo hi→xs[i]! <j)∧∀i,below.go xs j fuel lo hi≤i→i<xs.size→j≤xs[i]!
 |0,lo,hi,h1,h2,h3,a,b=>by
  have:lo=hi:=by omega
  subst this;rw [below.go];exact ⟨bC _,bC _,a,b⟩
 |fuel+1,lo,hi,h1,h2,h3,a,b=>by
  rw [below.go]
  by_cases c:lo<hi
  ·rw [if_pos c]
   have hm:(lo+hi) / 2<xs.size:=by omega
   dsimp only;rw [zN hm]
   by_cases d:xs[(lo+hi) / 2]! <j
   ·rw [if_pos d]
    have:=pO R j fuel ((lo+hi) / 2+1) hi (by omega) (by omega) h3 (λi qM=>by
     by_cases e:i=(lo+hi) / 2
     ·rw [e];exact d
     ·have:=R i ((lo+hi) / 2) hm (by omega);omega) b
    exact ⟨by omega,this.2.1,this.2.2⟩
   ·rw [if_neg d]
    have:=pO R j fuel lo ((lo+hi) / 2) (by omega) (by omega) (by omega) a (λi h4 h5=>by
     by_cases e:i=(lo+hi) / 2
     ·rw [e];omega
     ·have:=R ((lo+hi) / 2) i h5 (by omega);omega)
    exact ⟨this.1,by omega,this.2.2⟩
  ·rw [if_neg c]
   have:lo=hi:=by omega
   subst this;exact ⟨bC _,bC _,a,b⟩
theorem fw{xs:Array Nat}(R:ki xs)(j:Nat):below xs j≤xs.size∧(∀i,i<below xs j→xs[i]! <j)∧∀i,below xs j≤i→i<xs.size→j≤xs[i]! :=by
 have:=pO R j xs.size 0 xs.size (by omega) (fI _) (bC _) (λi h=>by omega) (λi h1 h2=>by omega)
 exact ⟨this.2.1,this.2.2⟩
theorem below_at{xs:Array Nat}(R:ki xs){i j:Nat}(h:xs[i]? =some j):below xs j=i:=by
 obtain ⟨hi,e⟩:=uY.mp h;have e':xs[i]! =j:=by simp [hi,e]
 obtain ⟨b1,b2,b3⟩:=fw R j;apply Nat.le_antisymm
 ·apply Classical.byContradiction
  intro c
  have:=b2 i (by omega)
  omega
 ·apply Classical.byContradiction
  intro c;have h1:=b3 (below xs j) (bC _) (by omega)
  have h2:=R (below xs j) i hi (by omega)
  omega
theorem wB{t:SetTable}(R:ki t.place){i j:Nat}(h:t.place[i]? =some j):t.slot j= .live i:=by
 unfold slot;rw [below_at R h];simp [h]
theorem uL{t:SetTable}(R:ki t.place)(hd:t.dummies= #[]){j:Nat}(h:∀i:Nat,t.place[i]? ≠some j):t.slot j= .empty:=by
 unfold slot
 have h1:(t.place[below t.place j]? ==some j)=false:=by
  rw [beq_eq_false_iff_ne];exact h _
 dsimp only;rw [if_neg (by rw [h1];exact dP)]
 unfold has;rw [hd];rfl
def jm(mask:Nat)(p:Probe):Probe:=
 if p.more>0 then {p with j:=p.j+1,more:=p.more-1} else
 let (i,perturb):=leap mask p.i p.perturb
 {p with j:=i,more:=runEnd mask i-i,i,perturb}
def oF(mask:Nat)(h:Int):Probe:={j:=bits h%(mask+1),more:=runEnd mask (bits h%(mask+1))-bits h%(mask+1),i:=bits h%(mask+1),perturb:=bits h,dummy:=none}
theorem yP(t:SetTable)(h:Int):t.probeStart h=oF t.mask h:=rfl
def qT(mask:Nat)(h:Int):Nat→Probe
 |0=>oF mask h
 |k+1=>jm mask (qT mask h k)
def bA(mask:Nat)(h:Int)(k:Nat):Nat:=(qT mask h k).j
theorem y9(h:Int):bits h<2^64:=by
 unfold bits;have h1:0≤h%(2^64:Int):=Int.emod_nonneg _ (by decide)
 have h2:h%(2^64:Int)<2^64:=Int.emod_lt_of_pos _ (by decide)
 omega
def b5(mask:Nat)(i p:Nat):Nat→Nat×Nat
 |0=>(i,p)
 |r+1=>leap mask (b5 mask i p r).1 (b5 mask i p r).2
theorem iq(mask i p:Nat):∀r,(b5 mask i p r).2=p / 32^r
 |0=>by simp [b5]
 |r+1=>by
  show (b5 mask i p r).2 / 32=_;rw [iq mask i p r,Nat.div_div_eq_div_mul,Nat.pow_succ]
def Ci(mask:Nat)(i:Nat):Nat:=(i*5+1)%(mask+1)
def hJ(mask:Nat)(i:Nat):Nat→Nat
 |0=>i
 |r+1=>Ci mask (hJ mask i r)
theorem iI(mask i:Nat)(a:Nat):∀b,hJ mask i (a+b)=hJ mask (hJ mask i a) b
 |0=>rfl
 |b+1=>by
  show Ci mask (hJ mask i (a+b))=_;rw [iI mask i a b];rfl
theorem ni{mask i p r0:Nat}(h:(b5 mask i p r0).2=0):∀r,b5 mask i p (r0+r)=(hJ mask (b5 mask i p r0).1 r,0)
 |0=>by rw [Nat.add_zero,hJ];exact Prod.ext rfl h
 |r+1=>by
  show leap mask (b5 mask i p (r0+r)).1 (b5 mask i p (r0+r)).2=_;rw [ni h r];unfold leap;simp [hJ,Ci]
def oU(mask:Nat):Prop:=mask=7∨mask=31∨mask=127∨mask=511
def Gh(mask:Nat):Nat→Nat→List Nat
 |_,0=> []
 |i,n+1=>i::Gh mask (Ci mask i) n
theorem uv{mask s:Nat}:∀{i n:Nat},s∈Gh mask i n→∃r,r<n∧hJ mask i r=s
 |i,0,h=>by cases h
 |i,n+1,h=>by
  rcases cV.mp h with rfl|h
  ·exact ⟨0,by omega,rfl⟩
  ·obtain ⟨r,hr,e⟩:=uv h
   refine ⟨r+1,by omega,?_⟩
   have:=iI mask i 1 r
   rw [show 1+r=r+1 by omega] at this
   rw [this];exact e
theorem Gi{mask:Nat}(h:oU mask):(∀s,s≤mask→∃r,r≤mask∧hJ mask 0 r=s)∧hJ mask 0 (mask+1)=0:=by
 have key:∀m,(List.range (m+1)).all (λs=>(Gh m 0 (m+1)).contains s)=true→∀s,s≤m→∃r,r≤m∧hJ m 0 r=s:=λm hm s hs=>by
  have:=List.all_eq_true.mp hm s (cN.mpr (by omega))
  obtain ⟨r,hr,e⟩:=uv (List.contains_iff_mem.mp this);exact ⟨r,by omega,e⟩
 rcases h with rfl|rfl|rfl|rfl
 ·exact ⟨key 7 (by decide+kernel),by decide+kernel⟩
 ·exact ⟨key 31 (by decide+kernel),by decide+kernel⟩
 ·exact ⟨key 127 (by decide+kernel),by decide+kernel⟩
 ·exact ⟨key 511 (by decide+kernel),by decide+kernel⟩
theorem cover{mask:Nat}(h:oU mask){i s:Nat}(hi:i≤mask)(hs:s≤mask):∃r,r≤mask∧hJ mask i r=s:=by
 obtain ⟨o,per⟩:=Gi h;obtain ⟨a,ha,rfl⟩:=o i hi;obtain ⟨b,hb,rfl⟩:=o s hs
 by_cases c:a≤b
 ·refine ⟨b-a,by omega,?_⟩
  rw [←iI,show a+(b-a)=b by omega]
 ·refine ⟨mask+1-a+b,by omega,?_⟩
  rw [←iI,show a+(mask+1-a+b)=mask+1+b by omega,iI,per]
def bD(mask:Nat)(p:Probe):Nat→Probe
 |0=>p
 |k+1=>jm mask (bD mask p k)
theorem iB(mask:Nat)(p:Probe)(a:Nat):∀b,bD mask p (a+b)=bD mask (bD mask p a) b
 |0=>rfl
 |b+1=>by
  show jm mask (bD mask p (a+b))=_;rw [iB mask p a b];rfl
theorem kc(mask:Nat)(h:Int):∀k,qT mask h k=bD mask (oF mask h) k
 |0=>rfl
 |k+1=>by
  show jm mask _=jm mask _;rw [kc mask h k]
theorem mE(mask:Nat)(p:Probe):∀c,c≤p.more→bD mask p c={p with j:=p.j+c,more:=p.more-c}
 |0,_=>rfl
 |c+1,hc=>by
  show jm mask (bD mask p c)=_;rw [mE mask p c (by omega)]
  unfold jm;rw [if_pos (by show p.more-c>0;omega)]
  show ({p with j:=p.j+c+1,more:=p.more-c-1}:Probe)={p with j:=p.j+(c+1),more:=p.more-(c+1)}
  rw [show p.more-c-1=p.more-(c+1) by omega,show p.j+c+1=p.j+(c+1) by omega]
def C8(mask:Nat)(p:Probe)(ip:Nat×Nat):Probe:={p with j:=ip.1,more:=runEnd mask ip.1-ip.1,i:=ip.1,perturb:=ip.2}
theorem more_le(mask i:Nat):runEnd mask i-i≤9:=by
 unfold runEnd
 split<;>omega
theorem kB(mask:Nat)(p:Probe):bD mask p (p.more+1)=C8 mask p (leap mask p.i p.perturb):=by
 show jm mask (bD mask p p.more)=_;rw [mE mask p p.more (bC _)];unfold jm;rw [if_neg (by show ¬p.more-p.more>0;omega)]
 rfl
theorem oX(mask:Nat)(p:Probe):∀r,∃k,k≤p.more+1+10*r∧bD mask p k=C8 mask p (b5 mask p.i p.perturb (r+1))
 |0=>⟨p.more+1,by omega,kB mask p⟩
 |r+1=>by
  obtain ⟨k,hk,e⟩:=oX mask p r;have h9:=more_le mask (b5 mask p.i p.perturb (r+1)).1;refine ⟨k+((runEnd mask (b5 mask p.i p.perturb (r+1)).1-(b5 mask p.i p.perturb (r+1)).1)+1),by omega,?_⟩
  rw [iB,e];exact kB mask (C8 mask p (b5 mask p.i p.perturb (r+1)))
theorem uJ(mask i p:Nat)(r:Nat):(b5 mask i p (r+1)).1≤mask:=by
 show (((b5 mask i p r).1*5+1+(b5 mask i p r).2 / 32)%(mask+1))≤mask
 have:=om ((b5 mask i p r).1*5+1+(b5 mask i p r).2 / 32) (show 0<mask+1 by omega)
 omega
theorem xw{mask i:Nat}(h:i≤mask):i+(runEnd mask i-i)≤mask:=by
 unfold runEnd
 split<;>omega
structure oq (mask:Nat) (p:Probe):Prop where
 le:p.j+p.more≤mask
 more:p.more≤9
 per:p.perturb<2^64
 dum:p.dummy=none
theorem oq.jm{mask:Nat}{p:Probe}(o:oq mask p):oq mask (jm mask p):=by
 unfold SetTable.jm
 split
 ·next h=>exact ⟨by show p.j+1+(p.more-1)≤mask;have:=o.le;omega,by show p.more-1≤9;have:=o.more;omega,o.per,o.dum⟩
 ·refine ⟨xw (by have:=om (p.i*5+1+p.perturb / 32) (show 0<mask+1 by omega);show (p.i*5+1+p.perturb / 32)%(mask+1)≤mask;omega),more_le _ _,?_,o.dum⟩
  show p.perturb / 32<2^64
  have:=o.per
  omega
theorem oq.start(mask:Nat)(h:Int):oq mask (oF mask h):=⟨xw (mask:=mask) (i:=bits h%(mask+1)) (by have:=om (bits h) (show 0<mask+1 by omega);omega),more_le _ _,y9 h,rfl⟩
theorem oq.bD{mask:Nat}{p:Probe}(o:oq mask p):∀k,oq mask (bD mask p k)
 |0=>o
 |k+1=>(o.bD k).jm
theorem meets{mask:Nat}(f:oU mask){p:Probe}(o:oq mask p){s:Nat}(hs:s≤mask):∃k,k<10*turns mask∧(bD mask p k).j=s:=by
 have z:(b5 mask p.i p.perturb 13).2=0:=by
  rw [iq];exact Nat.div_eq_of_lt (eS o.per (by decide))
 obtain ⟨r,hr,e⟩:=cover f (uJ mask p.i p.perturb 12) hs;obtain ⟨k,hk,e2⟩:=oX mask p (12+r);refine ⟨k,?_,?_⟩
 ·have:=o.more
  unfold turns;omega
 ·rw [e2]
  show (b5 mask p.i p.perturb (12+r+1)).1=s;rw [show 12+r+1=13+r by omega,ni z]
  exact e
theorem rL{t:SetTable}(R:ki t.place)(hd:t.dummies= #[])(hashAt:Nat→Int)(h:Int):∀(K fuel:Nat)(p:Probe),p.dummy=none→K<fuel→(∀i:Nat,t.place[i]? ≠some (bD t.mask p K).j)→
  ∃k0,k0≤K∧(∀k',k'<k0→∃i:Nat,t.place[i]? =some (bD t.mask p k').j∧hashAt i≠h)∧
   (((∀i:Nat,t.place[i]? ≠some (bD t.mask p k0).j)∧probe.go t hashAt h fuel p=some (.empty (bD t.mask p k0).j none))∨
    (∃i:Nat,t.place[i]? =some (bD t.mask p k0).j∧hashAt i=h∧probe.go t hashAt h fuel p=some (.candidate (bD t.mask p k0).j i (bD t.mask p (k0+1)))))
 |K,0,p,_,hK,_=>by omega
 |K,fuel+1,p,dn,hK,he=>by
  by_cases c:∃i:Nat,t.place[i]? =some p.j
  ·obtain ⟨i,hi⟩:=c
   have sl:=wB R hi
   by_cases c2:hashAt i=h
   ·refine ⟨0,fI _,λk' h'=>by omega, .inr ⟨i,hi,c2,?_⟩⟩
    rw [probe.go,sl];dsimp only;rw [if_pos (by simpa using c2)]
    rfl
   ·cases K with
    |zero=>exact absurd hi (he i)
    |succ K=>
     have NU:(jm t.mask p).dummy=none:=by
      unfold jm
      split<;>exact dn
     have e1:∀k,bD t.mask (jm t.mask p) k=bD t.mask p (k+1):=λk=>by
      have:=iB t.mask p 1 k
      rw [show 1+k=k+1 by omega] at this
      exact this.symm
     obtain ⟨k0,SN,a,b⟩:=rL R hd hashAt h K fuel (jm t.mask p) NU (by omega) (by rw [e1];exact he)
     have eg:probe.go t hashAt h (fuel+1) p=probe.go t hashAt h fuel (jm t.mask p):=by
      rw [probe.go,sl];dsimp only;rw [if_neg (by simpa using c2)]
      rfl
     refine ⟨k0+1,by omega,λk' h'=>?_,?_⟩
     ·cases k' with
      |zero=>exact ⟨i,hi,c2⟩
      |succ k'=>
       have:=a k' (by omega)
       rw [e1] at this;exact this
     ·rw [e1,e1] at b
      rw [eg];exact b
  ·have c:∀i:Nat,t.place[i]? ≠some p.j:=λi hi=>c ⟨i,hi⟩
   refine ⟨0,fI _,λk' h'=>by omega, .inl ⟨c,?_⟩⟩
   rw [probe.go,uL R hd c];dsimp only;rw [dn];rfl
structure TOk (t:SetTable) (hs:List Int):Prop where
 few:oU t.mask
 dum:t.dummies= #[]
 rise:ki t.place
 size:t.place.size=hs.length
 le:∀(i j:Nat),t.place[i]? =some j→j≤t.mask
 room:t.place.size≤t.mask
 path:∀(i:Nat)(h:Int),hs[i]? =some h→∃k,t.place[i]? =some (bA t.mask h k)∧∀k',k'<k→∃i':Nat,t.place[i']? =some (bA t.mask h k')
theorem tB(mask:Nat)(h:Int)(k:Nat):bA mask h k≤mask:=by
 unfold bA;rw [kc]
 have:=((oq.start mask h).bD k).le
 omega
theorem TOk.empty{t:SetTable}{hs:List Int}(T:TOk t hs):∃s,s≤t.mask∧∀i:Nat,t.place[i]? ≠some s:=by
 apply Classical.byContradiction;intro c
 have all:∀s∈List.range (t.mask+1),s∈t.place.toList:=λs hs=>by
  apply Classical.byContradiction;intro n;refine c ⟨s,by have:=cN.mp hs;omega,λi hi=>n ?_⟩
  rw [←n4] at hi;exact eJ hi
 have:=Wb.aR List.nodup_range all
 rw [kA,fH] at this
 have:=T.room
 omega
theorem TOk.probe{t:SetTable}{hs:List Int}(T:TOk t hs)(hashAt:Nat→Int)(h:Int)(k:Nat):
  ∃k0,k≤k0∧(∀k',k≤k'→k'<k0→∃i:Nat,t.place[i]? =some (bA t.mask h k')∧hashAt i≠h)∧
   (((∀i:Nat,t.place[i]? ≠some (bA t.mask h k0))∧t.probe hashAt h (qT t.mask h k)=some (.empty (bA t.mask h k0) none))∨
    (∃i:Nat,t.place[i]? =some (bA t.mask h k0)∧hashAt i=h∧t.probe hashAt h (qT t.mask h k)=some (.candidate (bA t.mask h k0) i (qT t.mask h (k0+1))))):=by
 obtain ⟨s,sD,he⟩:=T.empty;have o:=(oq.start t.mask h).bD k;rw [←kc] at o;obtain ⟨K,hK,eK⟩:=meets T.few o sD;have e1:∀c,bD t.mask (qT t.mask h k) c=qT t.mask h (k+c):=λc=>by rw [kc,kc,←iB]
 obtain ⟨k0,h0,a,b⟩:=rL T.rise T.dum hashAt h K (10*turns t.mask) (qT t.mask h k) o.dum hK (by rw [eK];exact he)
 refine ⟨k+k0,by omega,λk' h1 h2=>?_,?_⟩
 ·have:=a (k'-k) (by omega)
  rw [e1,show k+(k'-k)=k' by omega] at this
  exact this
 ·rw [e1,e1] at b
  exact b
theorem ie{α:Type}{xs:Array α}{p:Nat}(x:α)(hp:p≤xs.size)(i:Nat):(insertAt xs p x)[i]? =if i<p then xs[i]? else if i=p then some x else xs[i-1]? :=by
 rw [←n4,SetTable.toList_insertAt];have lt:(xs.toList.take p).length=p:=by rw [ji,fH];omega
 by_cases c:i<p
 ·rw [if_pos c,iQ (by omega),xG c,n4]
 ·rw [if_neg c]
  by_cases d:i=p
  ·subst d
   rw [if_pos rfl,jh (by omega),lt,oh];rfl
  ·rw [if_neg d,jh (by omega),lt]
   obtain ⟨m,hm⟩:∃m,i-p=m+1:=⟨i-p-1,by omega⟩
   rw [hm,qx,List.getElem?_drop,n4]
   congr 1;omega
theorem eD{α:Type}(xs:Array α)(p:Nat)(x:α):(insertAt xs p x).size=xs.size+1:=by
 rw [←fH,(SetTable.insertAt_perm xs p x).length_eq];simp
theorem gh{xs:Array Nat}{i j:Nat}(h:xs[i]? =some j):xs[i]! =j:=by
 obtain ⟨hi,e⟩:=uY.mp h;simp [hi,e]
theorem yJ{xs:Array Nat}(R:ki xs){j:Nat}(h:∀i:Nat,xs[i]? ≠some j):ki (insertAt xs (below xs j) j):=by
 obtain ⟨b1,b2,b3⟩:=fw R j;have g:=ie (xs:=xs) j b1;intro a b hb ye;rw [eD] at hb
 have val:∀i,i<xs.size+1→∃v,(insertAt xs (below xs j) j)[i]? =some v∧((i<below xs j∧xs[i]? =some v)∨(i=below xs j∧v=j)∨(below xs j<i∧xs[i-1]? =some v)):=λi hi=>by
  rw [g i]
  by_cases c:i<below xs j
  ·rw [if_pos c,nZ (by omega)]
   exact ⟨_,rfl, .inl ⟨c,rfl⟩⟩
  ·rw [if_neg c]
   by_cases d:i=below xs j
   ·rw [if_pos d];exact ⟨j,rfl, .inr (.inl ⟨d,rfl⟩)⟩
   ·rw [if_neg d,nZ (by omega)]
    exact ⟨_,rfl, .inr (.inr ⟨by omega,rfl⟩)⟩
 obtain ⟨va,ha,ca⟩:=val a (by omega)
 obtain ⟨vb,kI,cb⟩:=val b (by omega)
 rw [gh ha,gh kI];have lo:∀i v,i<below xs j→xs[i]? =some v→v<j:=λi v h1 h2=>by have:=b2 i h1;rw [gh h2] at this;exact this
 have hi:∀i v,below xs j≤i→xs[i]? =some v→j<v:=λi v h1 h2=>by
  have:=b3 i h1 (uY.mp h2).1
  rw [gh h2] at this
  have:v≠j:=λz=>h i (by rw [h2,z])
  omega
 have mid:∀i k v u,xs[i]? =some v→xs[k]? =some u→i<k→v<u:=λi k v u h1 h2 h3=>by
  have:=R i k (uY.mp h2).1 h3
  rw [gh h1,gh h2] at this;exact this
 rcases ca with ⟨a1,a2⟩ | ⟨a1,rfl⟩ | ⟨a1,a2⟩
 ·rcases cb with ⟨c1,c2⟩ | ⟨c1,rfl⟩ | ⟨c1,c2⟩
  ·exact mid _ _ _ _ a2 c2 ye
  ·exact lo _ _ a1 a2
  ·have:=lo _ _ a1 a2;have:=hi (b-1) _ (by omega) c2;omega
 ·rcases cb with ⟨c1,c2⟩ | ⟨c1,rfl⟩ | ⟨c1,c2⟩
  ·omega
  ·omega
  ·exact hi (b-1) _ (by omega) c2
 ·rcases cb with ⟨c1,c2⟩ | ⟨c1,rfl⟩ | ⟨c1,c2⟩
  ·omega
  ·omega
  ·exact mid _ _ _ _ a2 c2 (by omega)
theorem AW{xs:Array Nat}(R:ki xs){j s:Nat}:(∃i:Nat,(insertAt xs (below xs j) j)[i]? =some s)↔s=j∨∃i:Nat,xs[i]? =some s:=by
 obtain ⟨b1,_,_⟩:=fw R j;have g:=ie (xs:=xs) j b1
 constructor
 ·rintro ⟨i,h⟩
  rw [g i] at h
  split at h
  ·exact .inr ⟨i,h⟩
  ·split at h
   ·exact .inl (Option.some.inj h).symm
   ·exact .inr ⟨_,h⟩
 ·rintro (rfl| ⟨i,h⟩)
  ·exact ⟨below xs s,by rw [g,if_neg (by omega),if_pos rfl]⟩
  ·by_cases c:i<below xs j
   ·exact ⟨i,by rw [g,if_pos c];exact h⟩
   ·exact ⟨i+1,by rw [g,if_neg (by omega),if_neg (by omega)];exact h⟩
theorem TOk.put{t:SetTable}{hs:List Int}(T:TOk t hs){h:Int}{k:Nat}(he:∀i:Nat,t.place[i]? ≠some (bA t.mask h k))(hp:∀k',k'<k→∃i:Nat,t.place[i]? =some (bA t.mask h k'))(room:t.place.size+1≤t.mask):
  (t.put (bA t.mask h k)).2=below t.place (bA t.mask h k)∧below t.place (bA t.mask h k)≤hs.length∧
  TOk (t.put (bA t.mask h k)).1 (hs.take (below t.place (bA t.mask h k))++h::hs.drop (below t.place (bA t.mask h k))):=by
 obtain ⟨b1,b2,b3⟩:=fw T.rise (bA t.mask h k);have g:=ie (xs:=t.place) (bA t.mask h k) b1;have sz:=T.size;have pm:=λs=>AW (s:=s) (j:=bA t.mask h k) T.rise;refine ⟨rfl,by omega,T.few,?_,yJ T.rise he,?_,?_,?_,?_⟩
 ·show (if has t.dummies _=true then _ else t.dummies)= #[]
  rw [T.dum];rfl
 ·show (insertAt t.place _ _).size=_
  rw [eD,cK,ji,dY,List.length_drop];omega
 ·intro i j hj
  have hj:(insertAt t.place (below t.place (bA t.mask h k)) (bA t.mask h k))[i]? =some j:=hj
  rcases (pm j).mp ⟨i,hj⟩ with rfl| ⟨i',h'⟩
  ·exact tB _ _ _
  ·exact T.le _ _ h'
 ·show (insertAt t.place _ _).size≤_
  rw [eD];exact room
 ·intro i h' hi
  show ∃k1,(insertAt t.place (below t.place (bA t.mask h k)) (bA t.mask h k))[i]? =some (bA t.mask h' k1)∧∀k',k'<k1→∃i':Nat,(insertAt t.place (below t.place (bA t.mask h k)) (bA t.mask h k))[i']? =some (bA t.mask h' k');have lt:(hs.take (below t.place (bA t.mask h k))).length=below t.place (bA t.mask h k):=by rw [ji];omega
  by_cases c:i<below t.place (bA t.mask h k)
  ·rw [iQ (by omega),xG c] at hi
   obtain ⟨k1,e1,e2⟩:=T.path i h' hi;exact ⟨k1,by rw [g,if_pos c];exact e1,λk' iG=>(pm _).mpr (.inr (e2 k' iG))⟩
  ·rw [jh (by omega),lt] at hi
   by_cases d:i=below t.place (bA t.mask h k)
   ·rw [d,oh] at hi
    cases (Option.some.inj hi);exact ⟨k,by rw [d,g,if_neg (by omega),if_pos rfl],λk' iG=>(pm _).mpr (.inr (hp k' iG))⟩
   ·obtain ⟨m,hm⟩:∃m,i-below t.place (bA t.mask h k)=m+1:=⟨i-below t.place (bA t.mask h k)-1,by omega⟩
    rw [hm,qx,List.getElem?_drop] at hi;obtain ⟨k1,e1,e2⟩:=T.path _ h' hi;refine ⟨k1,?_,λk' iG=>(pm _).mpr (.inr (e2 k' iG))⟩;rw [g,if_neg c,if_neg d,show i-1=below t.place (bA t.mask h k)+m by omega]
    exact e1
theorem nP(mask i p:Nat):∀r,b5 mask i p (r+1)=b5 mask (leap mask i p).1 (leap mask i p).2 r
 |0=>rfl
 |r+1=>by
  show leap mask (b5 mask i p (r+1)).1 (b5 mask i p (r+1)).2=_;rw [nP mask i p r];rfl
def Own(o:Array (Option Nat))(s:Nat):Prop:=(o.getD s (some 0)).isNone=false
theorem pM{mask:Nat}(owner:Array (Option Nat)):∀(fuel:Nat)(p:Probe),p.j=p.i→p.more=runEnd mask p.i-p.i→p.i≤runEnd mask p.i→(∃r,r<fuel∧¬Own owner (b5 mask p.i p.perturb r).1)→
  ∃k0,layClean.free mask owner fuel p.i p.perturb=some (bD mask p k0).j∧¬Own owner (bD mask p k0).j∧∀k',k'<k0→Own owner (bD mask p k').j
 |0,p,_,_,_,⟨r,hr,_⟩=>by omega
 |fuel+1,p,e1,e2,e3,⟨r,hr,he⟩=>by
  have run:∀c,c≤p.more→(bD mask p c).j=p.i+c:=λc hc=>by rw [mE mask p c hc];show p.j+c=_;rw [e1]
  cases hf:(List.range (runEnd mask p.i+1-p.i)).find? λk=>(owner.getD (p.i+k) (some 0)).isNone with
  |some k=>
   obtain ⟨h1,as,bs,h2,h3⟩:=List.find?_eq_some_iff_append.mp hf;have hk:k<runEnd mask p.i+1-p.i:=cN.mp (by rw [h2];simp)
   have SV:as.length=k:=by
    have hl:as.length<(List.range (runEnd mask p.i+1-p.i)).length:=by rw [h2];simp
    have:=rV (n:=runEnd mask p.i+1-p.i) (i:=as.length) (by simpa using hl)
    rw [h2,jh (bC _),oh] at this;exact (Option.some.inj this).symm
   refine ⟨k,?_,?_,λk' iG=>?_⟩
   ·rw [layClean.free,hf,run k (by omega)]
   ·rw [run k (by omega)]
    unfold Own;rw [h1];exact Bool.noConfusion
   ·rw [run k' (by omega)]
    have hm:k'∈as:=by
     have:=rV (n:=runEnd mask p.i+1-p.i) (i:=k') (by omega)
     rw [h2,iQ (by omega)] at this
     exact eJ this
    have:=h3 k' hm
    unfold Own;exact Bool.not_eq_true' _▸this
  |none=>
   have all:=List.find?_eq_none.mp hf
   have own:∀c,c≤p.more→Own owner (p.i+c):=λc hc=>by
    have:=all c (cN.mpr (by omega))
    unfold Own;exact mx.mpr this
   cases r with
   |zero=>exact absurd (own 0 (fI _)) he
   |succ r=>
    have lp:=kB mask p
    obtain ⟨k0,a,b,c⟩:=pM owner fuel (C8 mask p (leap mask p.i p.perturb)) rfl rfl (by
     show (leap mask p.i p.perturb).1≤runEnd mask (leap mask p.i p.perturb).1;unfold runEnd;split<;>omega) ⟨r,by omega,by rw [nP] at he;exact he⟩
    rw [←lp] at a b c;have e4:∀k,bD mask (bD mask p (p.more+1)) k=bD mask p (p.more+1+k):=λk=>(iB mask p (p.more+1) k).symm;refine ⟨p.more+1+k0,?_,?_,λk' iG=>?_⟩
    ·rw [layClean.free,hf,←e4,←a,lp];rfl
    ·rw [←e4];exact b
    ·by_cases d:k'≤p.more
     ·rw [run k' d];exact own k' d
     ·have:=c (k'-(p.more+1)) (by omega)
      rw [e4,show p.more+1+(k'-(p.more+1))=k' by omega] at this
      exact this
structure Laid (mask:Nat) (hs:List Int) (owner:Array (Option Nat)) (ss:List Nat):Prop where
 size:owner.size=mask+1
 len:ss.length=hs.length
 nd:ss.Nodup
 le:∀s∈ss,s≤mask
 get:∀s,s≤mask→∀k,owner.getD s (some 0)=some k↔ss[k]? =some s
 path:∀(k:Nat)(h:Int),hs[k]? =some h→∃c,ss[k]? =some (bA mask h c)∧∀c',c'<c→bA mask h c'∈ss
theorem Laid.own{mask:Nat}{hs:List Int}{owner:Array (Option Nat)}{ss:List Nat}(L:Laid mask hs owner ss){s:Nat}(h:s≤mask):Own owner s↔s∈ss:=by
 unfold Own
 constructor
 ·intro e
  cases o:owner.getD s (some 0) with
  |none=>rw [o] at e;cases e
  |some k=>exact eJ ((L.get s h k).mp o)
 ·intro e
  obtain ⟨k,hk⟩:=u0 e;rw [(L.get s h k).mpr hk];rfl
theorem vU{mask:Nat}(f:oU mask){hs:List Int}{owner:Array (Option Nat)}{ss:List Nat}(L:Laid mask hs owner ss)(room:hs.length≤mask)(h:Int):
  ∃j,layClean.free mask owner (turns mask) (bits h%(mask+1)) (bits h)=some j∧Laid mask (hs++ [h]) (owner.setIfInBounds j (some hs.length)) (ss++ [j]):=by
 have o:=oq.start mask h
 obtain ⟨s,JI,iX⟩:∃s,s≤mask∧s∉ss:=by
  apply Classical.byContradiction;intro c
  have all:∀s∈List.range (mask+1),s∈ss:=λs hs=>by
   apply Classical.byContradiction;intro n;exact c ⟨s,by have:=cN.mp hs;omega,n⟩
  have:=Wb.aR List.nodup_range all
  rw [kA,L.len] at this;omega
 have z:(b5 mask (oF mask h).i (oF mask h).perturb 13).2=0:=by
  rw [iq];exact Nat.div_eq_of_lt (eS o.per (by decide))
 obtain ⟨r,hr,e⟩:=cover f (uJ mask (oF mask h).i (oF mask h).perturb 12) JI
 have hi:(oF mask h).i≤mask:=by
  have:=om (bits h) (show 0<mask+1 by omega)
  show bits h%(mask+1)≤mask;omega
 obtain ⟨k0,a,b,c⟩:=pM owner (turns mask) (oF mask h) rfl rfl (by unfold runEnd;split<;>omega) ⟨13+r,by unfold turns;omega,by
  rw [ni z];show ¬Own owner (hJ mask _ r);rw [e,L.own JI];exact iX⟩
 have sl:∀k,(bD mask (oF mask h) k).j=bA mask h k:=λk=>by unfold bA;rw [kc]
 rw [sl] at a b;have hle:=tB mask h k0;rw [L.own hle] at b;refine ⟨bA mask h k0,a,?_,?_,?_,?_,?_,?_⟩
 ·rw [Array.size_setIfInBounds];exact L.size
 ·rw [cK,cK,L.len];rfl
 ·exact jS.mpr ⟨L.nd,by simp,λx hx y hy z=>b (by rw [←cE.mp hy,←z];exact hx)⟩
 ·intro x hx
  rcases cu.mp hx with hx|hx
  ·exact L.le x hx
  ·rw [cE.mp hx];exact hle
 ·intro x hx k
  have e1:(owner.setIfInBounds (bA mask h k0) (some hs.length)).getD x (some 0)=if bA mask h k0=x then some hs.length else owner.getD x (some 0):=by
   rw [uX,uX,Array.getElem?_setIfInBounds]
   by_cases d:bA mask h k0=x
   ·rw [if_pos d,if_pos d,if_pos (by rw [L.size];omega)];rfl
   ·rw [if_neg d,if_neg d]
  rw [e1]
  by_cases d:bA mask h k0=x
  ·rw [if_pos d]
   constructor
   ·intro e
    cases (Option.some.inj e);rw [←L.len,jh (bC _),oh,←d];rfl
   ·intro e
    by_cases q:k<ss.length
    ·rw [iQ q] at e
     exact absurd (by rw [d];exact eJ e) b
    ·have:k<(ss++ [bA mask h k0]).length:=(eo.mp e).1
     rw [cK] at this
     have:k<ss.length+1:=this
     rw [show k=ss.length by omega,L.len]
  ·rw [if_neg d,L.get x hx k]
   constructor
   ·intro e
    rw [iQ (eo.mp e).1];exact e
   ·intro e
    by_cases q:k<ss.length
    ·rw [iQ q] at e;exact e
    ·have:k<(ss++ [bA mask h k0]).length:=(eo.mp e).1
     rw [cK] at this
     have:k<ss.length+1:=this
     rw [show k=ss.length by omega,jh (bC _),oh] at e
     exact absurd (Option.some.inj e) d
 ·intro k h' hk
  by_cases q:k<hs.length
  ·rw [iQ q] at hk
   obtain ⟨c1,e1,e2⟩:=L.path k h' hk;exact ⟨c1,by rw [iQ (by rw [L.len];exact q)];exact e1,λc' pR=>fV _ (e2 c' pR)⟩
  ·have:k<(hs++ [h]).length:=(eo.mp hk).1
   rw [cK] at this
   have:k<hs.length+1:=this
   have ek:k=hs.length:=by omega
   subst ek;rw [jh (bC _),oh] at hk;cases (Option.some.inj hk);refine ⟨k0,by rw [←L.len,jh (bC _),oh];rfl,λc' pR=>fV _ ?_⟩
   have:=c c' pR
   rw [sl] at this;exact (L.own (tB _ _ _)).mp this
theorem vV(mask:Nat):Laid mask [] (Array.replicate (mask+1) none) [] where
 size:=by simp
 len:=rfl
 nd:=fW
 le:=λs h=>by cases h
 get:=λs hs k=>by
  rw [uX,Array.getElem?_replicate,if_pos (by omega)]
  simp
 path:=λk h e=>by cases e
def rB(mask:Nat)(acc:Option (Array (Option Nat)×Nat))(h:Int):Option (Array (Option Nat)×Nat):=do
 let (owner,k) ←acc
 let j ←layClean.free mask owner (turns mask) (bits h%(mask+1)) (bits h)
 pure (owner.setIfInBounds j (some k),k+1)
theorem rD{mask:Nat}(f:oU mask):∀(rest done:List Int)(owner:Array (Option Nat))(ss:List Nat),Laid mask done owner ss→done.length+rest.length≤mask+1→
  ∃lV Gx,rest.foldl (rB mask) (some (owner,done.length))=some (lV,done.length+rest.length)∧Laid mask (done++rest) lV Gx
 | [],done,owner,ss,L,_=>⟨owner,ss,rfl,by rw [mz];exact L⟩
 |h::rest,done,owner,ss,L,hl=>by
  rw [dY] at hl;obtain ⟨j,e,L'⟩:=vU f L (by omega) h
  have ef:rB mask (some (owner,done.length)) h=some (owner.setIfInBounds j (some done.length),done.length+1):=by
   unfold rB;simp [e]
  obtain ⟨lV,Gx,e2,L2⟩:=rD f rest (done++ [h]) _ _ L' (by rw [cK];show done.length+1+rest.length≤_;omega)
  refine ⟨lV,Gx,?_,by rw [mw] at L2;exact L2⟩
  rw [List.foldl_cons,ef];rw [cK] at e2;have e2:rest.foldl (rB mask) (some (owner.setIfInBounds j (some done.length),done.length+1))=some (lV,done.length+1+rest.length):=e2;rw [e2,dY]
  congr 2;omega
theorem sH{mask:Nat}(f:oU mask)(hs:List Int)(room:hs.length≤mask+1):∃owner ss,layClean mask hs.toArray=some owner∧Laid mask hs owner ss:=by
 obtain ⟨owner,ss,e,L⟩:=rD f hs [] _ _ (vV mask) (by simpa using room)
 refine ⟨owner,ss,?_,by simpa using L⟩
 have:layClean mask hs.toArray=(hs.foldl (rB mask) (some (Array.replicate (mask+1) none,0))).map (·.1):=by
  unfold layClean;rw [List.foldl_toArray];rfl
 have e:hs.foldl (rB mask) (some (Array.replicate (mask+1) none,0))=some (owner,[].length+hs.length):=e;rw [this,e];rfl
def bZ(mask:Nat)(owner:Array (Option Nat)):List (Nat×Nat):=(List.range (mask+1)).filterMap λj=>(owner.getD j none).map (j,·)
theorem yt{mask:Nat}{hs:List Int}{owner:Array (Option Nat)}{ss:List Nat}(L:Laid mask hs owner ss){j k:Nat}:(j,k)∈bZ mask owner↔ss[k]? =some j:=by
 unfold bZ;rw [List.mem_filterMap]
 have dflt:∀s,s≤mask→owner.getD s none=owner.getD s (some 0):=λs hs=>by
  rw [uX,uX,nZ (by rw [L.size];omega)];rfl
 constructor
 ·rintro ⟨s,sD,e⟩
  have sD:=cN.mp sD;rw [dflt s (by omega)] at e
  cases o:owner.getD s (some 0) with
  |none=>rw [o] at e;cases e
  |some k'=>
   rw [o] at e;have e:=Option.some.inj e;have e1:s=j:=(Prod.mk.inj e).1;have e2:k'=k:=(Prod.mk.inj e).2;rw [←e1,←e2];exact (L.get s (by omega) k').mp o
 ·intro e
  have hj:=L.le j (eJ e);refine ⟨j,cN.mpr (by omega),?_⟩
  rw [dflt j hj,(L.get j hj k).mpr e];rfl
theorem vY(mask:Nat)(owner:Array (Option Nat)):((bZ mask owner).map (·.1)).Pairwise (·<·):=by
 unfold bZ;rw [n9,List.pairwise_filterMap];refine List.pairwise_lt_range.imp λ {a b} h x hx y hy=>?_;cases oa:owner.getD a none with
 |none=>rw [oa] at hx;cases hx
 |some ka=>
  cases ob:owner.getD b none with
  |none=>rw [ob] at hy;cases hy
  |some kb=>
   rw [oa] at hx;rw [ob] at hy;cases (Option.some.inj hx);cases (Option.some.inj hy);exact h
theorem Ah{mask:Nat}(f:oU mask)(hs:List Int)(room:hs.length≤mask)(finger moves:Nat)(led plain:Bool):
  ∃t order,laid mask finger moves led plain hs.toArray=some (t,order)∧t.mask=mask∧t.led=led∧t.plain=plain∧t.moves=moves∧order.toList.Perm (List.range hs.length)∧TOk t (order.toList.map λk=>hs.getD k 0):=by
 obtain ⟨owner,ss,e,L⟩:=sH f hs (by omega)
 have lm:=λ {j k:Nat}=>yt (j:=j) (k:=k) L;have ri:=vY mask owner
 have sO:((bZ mask owner).map (·.2)).Nodup:=by
  rw [xF,n9];rw [n9] at ri;refine ri.imp_of_mem λ {a b} ha hb ye z=>?_;obtain ⟨aj,ak⟩:=a;obtain ⟨bj,bk⟩:=b;have h1:=lm.mp ha;have h2:=lm.mp hb;have z:ak=bk:=z;rw [z,h2] at h1
  have:=Option.some.inj h1
  have ye:aj<bj:=ye;omega
 have perm:((bZ mask owner).map (·.2)).Perm (List.range hs.length):=by
  refine (List.perm_ext_iff_of_nodup sO List.nodup_range).mpr λk=>?_;rw [eO,cN]
  constructor
  ·rintro ⟨⟨j,k'⟩,h,rfl⟩
   have:=(eo.mp (lm.mp h)).1
   rw [L.len] at this;exact this
  ·intro hk
   have iG:k<ss.length:=by rw [L.len];exact hk
   exact ⟨(ss[k],k),lm.mpr (eN iG),rfl⟩
 have ll:(bZ mask owner).length=hs.length:=by
  have:=perm.length_eq
  simpa using this
 refine ⟨{mask,place:=((bZ mask owner).map (·.1)).toArray,dummies:= #[],finger,led,moves,plain},((bZ mask owner).map (·.2)).toArray,?_,rfl,rfl,rfl,rfl,by simpa using perm,?_⟩
 ·unfold laid
  rw [e];rfl
 have AJ:∀(i j:Nat),((bZ mask owner).map (·.1)).toArray[i]? =some j↔∃k,(bZ mask owner)[i]? =some (j,k):=λi j=>by
  rw [List.getElem?_toArray,cU];cases o:(bZ mask owner)[i]? with
  |none=>simp
  |some x=>
   obtain ⟨a,b⟩:=x;simp
 have O7:∀s,s∈ss→∃i:Nat,((bZ mask owner).map (·.1)).toArray[i]? =some s:=λs sD=>by
  obtain ⟨k,hk⟩:=u0 sD;obtain ⟨i,hi⟩:=u0 (lm.mpr hk);exact ⟨i,(AJ i s).mpr ⟨k,hi⟩⟩
 refine ⟨f,rfl,?_,?_,?_,?_,?_⟩
 ·intro a b hb ye
  have hb:b<((bZ mask owner).map (·.1)).length:=by simpa using hb
  have:=List.pairwise_iff_getElem.mp ri a b (by omega) hb ye
  simp [show a<(bZ mask owner).length by simpa using (show a<((bZ mask owner).map (·.1)).length by omega),show b<(bZ mask owner).length by simpa using hb]
  simpa using this
 ·simp
 ·intro i j h
  obtain ⟨k,hk⟩:=(AJ i j).mp h;exact L.le j (eJ (lm.mp (eJ hk)))
 ·show ((bZ mask owner).map (·.1)).toArray.size≤mask
  simp [ll];exact room
 ·intro i h' hi
  rw [cU] at hi;cases o:(bZ mask owner)[i]? with
  |none=>
   have:(((bZ mask owner).map (·.2)).toArray.toList)[i]? =none:=by simp [o]
   rw [this] at hi;cases hi
  |some x=>
   obtain ⟨j,k⟩:=x;have e1:(((bZ mask owner).map (·.2)).toArray.toList)[i]? =some k:=by simp [o]
   rw [e1] at hi;have sk:=lm.mp (eJ o);have hk:k<hs.length:=by rw [←L.len];exact (eo.mp sk).1
   have eh:hs[k]? =some h':=by
    rw [←Option.some.inj hi];show _=some (hs.getD k 0);rw [cP,eN hk];rfl
   obtain ⟨c,p1,p2⟩:=L.path k h' eh;rw [sk] at p1;refine ⟨c,(AJ i _).mpr ⟨k,by rw [o,Option.some.inj p1]⟩,λc' pR=>O7 _ (p2 c' pR)⟩
end PySem.SetTable
namespace PySem
open SetTable PyProof.Rows
def cO(w:World):Bool:=w.params.followText "set-order"
structure eQ (bt:Bool) (o:Obj) (es:Array (Int×Value)) (ep:Nat) (t:SetTable):Prop where
 ex:o.ExactSet
 dat:o.data= .set es ep t
 tok:TOk t (es.toList.map (·.1))
 pl:t.plain=true
 ld:t.led= !bt
 few:5*es.size<3*t.mask
theorem TOk.fits{t:SetTable}{hs:List Int}(T:TOk t hs):t.fits hs.length=true:=by
 simp only [SetTable.fits,SetTable.fill,T.dum,T.size,qB,beq_iff_eq,decide_eq_true_eq,true_and]
 have:=T.room
 rw [T.size] at this;simpa using this
theorem eQ.fits{w:Bool}{o:Obj}{es:Array (Int×Value)}{ep:Nat}{t:SetTable}(S:eQ w o es ep t):t.fits es.size=true:=by
 have:=TOk.fits S.tok
 simpa using this
theorem ya{mask n:Nat}(f:oU mask)(h:5*n<3*mask):n+1≤mask:=by
 rcases f with rfl|rfl|rfl|rfl<;>omega
theorem vW{t:SetTable}{es:Array (Int×Value)}(T:TOk t (es.toList.map (·.1)))(few:5*es.size<3*t.mask)(h:Int)(x:Value):
  ∃p t',layNew t es h x=(SetTable.insertAt es p (h,x),t',false,false)∧TOk t' ((SetTable.insertAt es p (h,x)).toList.map (·.1))∧t'.mask=t.mask∧t'.plain=t.plain∧t'.led=t.led:=by
 obtain ⟨k0,_,a,b⟩:=TOk.probe T (λ_=>h+1) h 0;obtain ⟨b1,b2⟩:=b.resolve_right (λ⟨i,_,c,_⟩=>by have c:h+1=h:=c;omega)
 have fs:t.freeSlot h=some (bA t.mask h k0,false):=by
  unfold SetTable.freeSlot;rw [yP,show oF t.mask h=qT t.mask h 0 from rfl,b2];rfl
 have sz:t.place.size=es.size:=by rw [T.size];simp
 obtain ⟨p1,p2,p3⟩:=TOk.put T (h:=h) (k:=k0) b1 (λk' iG=>let ⟨i,hi,_⟩:=a k' (fI _) iG;⟨i,hi⟩) (by rw [sz];exact ya T.few few)
 have e:(SetTable.insertAt es (below t.place (bA t.mask h k0)) (h,x)).toList.map (·.1)=(es.toList.map (·.1)).take (below t.place (bA t.mask h k0))++h::(es.toList.map (·.1)).drop (below t.place (bA t.mask h k0)):=by
  rw [SetTable.toList_insertAt];simp
 rw [←e] at p3;refine ⟨below t.place (bA t.mask h k0),(t.put (bA t.mask h k0)).1,?_,p3,rfl,rfl,rfl⟩
 have ft:(t.put (bA t.mask h k0)).1.fits (SetTable.insertAt es (below t.place (bA t.mask h k0)) (h,x)).size=true:=by
  have:=TOk.fits p3
  rw [aW,fH] at this;exact this
 unfold layNew;rw [fs];show (SetTable.insertAt es (t.put (bA t.mask h k0)).2 (h,x),(t.put (bA t.mask h k0)).1.orStandIn (SetTable.insertAt es (t.put (bA t.mask h k0)).2 (h,x)).size,false,!(t.put (bA t.mask h k0)).1.fits (SetTable.insertAt es (t.put (bA t.mask h k0)).2 (h,x)).size)=_;rw [p1];unfold SetTable.orStandIn;rw [if_pos ft,ft];rfl
theorem vC{mask n:Nat}(f:oU mask)(h1:3*mask≤5*n)(h2:5*(n-1)<3*mask)(h3:n≤306):oU (sizeAbove (grown n)-1)∧5*n<3*(sizeAbove (grown n)-1)∧n≤sizeAbove (grown n)-1∧sizeAbove (grown n)≤512:=by
 rcases f with rfl|rfl|rfl|rfl
 ·have:n=5:=by omega
  subst this;exact ⟨.inr (.inl rfl),by decide,by decide,by decide⟩
 ·have:n=19:=by omega
  subst this;exact ⟨.inr (.inr (.inl rfl)),by decide,by decide,by decide⟩
 ·have:n=77:=by omega
  subst this;exact ⟨.inr (.inr (.inr rfl)),by decide,by decide,by decide⟩
 ·omega
theorem wz{t:SetTable}{es:Array (Int×Value)}(T:TOk t (es.toList.map (·.1)))(full:t.tooFull=true)(near:5*(es.size-1)<3*t.mask)(small:es.size≤306):
  ∃t' order,t.relaid (es.map (·.1)) (grown es.size)=some (t',order)∧order.toList.Perm (List.range es.size)∧(order.filterMap (es[·]?)).toList.Perm es.toList∧(order.filterMap (es[·]?)).size=es.size∧
   TOk t' ((order.filterMap (es[·]?)).toList.map (·.1))∧t'.plain=t.plain∧t'.led=t.led∧5*es.size<3*t'.mask∧sizeAbove (grown es.size)≤512:=by
 have sz:t.place.size=es.size:=by rw [T.size];simp
 have f1:3*t.mask≤5*es.size:=by
  unfold SetTable.tooFull SetTable.fill at full;rw [T.dum,sz] at full;simp at full;omega
 obtain ⟨g1,g2,g3,g4⟩:=vC T.few f1 near small;obtain ⟨t',order,e,em,el,ep,_,pm,tk⟩:=Ah g1 (es.toList.map (·.1)) (by simpa using g3) t.finger (t.movedTo (sizeAbove (grown es.size)-1)) t.led t.plain
 rw [aW,fH] at pm
 have pf:(order.filterMap (es[·]?)).toList.Perm es.toList:=by
  rw [Array.toList_filterMap];exact (pm.filterMap _).trans (by rw [filterMap_getElem?_range])
 have sf:(order.filterMap (es[·]?)).size=es.size:=by rw [←fH,pf.length_eq,fH]
 refine ⟨t',order,?_,pm,pf,sf,?_,ep,el,by rw [em];exact g2,g4⟩
 ·unfold SetTable.relaid
  rw [show es.map (·.1)=(es.toList.map (·.1)).toArray by apply Array.toList_inj.mp;simp]
  exact e
 ·have:(order.filterMap (es[·]?)).toList.map (·.1)=order.toList.map λk=>(es.toList.map (·.1)).getD k 0:=by
   rw [Array.toList_filterMap];have lt:∀k∈order.toList,k<es.size:=λk hk=>cN.mp (pm.mem_iff.mp hk);generalize order.toList=l at lt
   induction l with
   |nil=>rfl
   |cons k l ih=>
    have hk:=lt k (fQ ..);rw [List.filterMap_cons_some (b:=es[k]) (by simp [hk]),jT,jT,ih λj hj=>lt j (fJ _ hj)]
    simp [hk]
  rw [this];exact tk
theorem tw{t:SetTable}{es:Array (Int×Value)}(T:TOk t (es.toList.map (·.1)))(full:t.tooFull=true)(near:5*(es.size-1)<3*t.mask)(small:es.size≤306):
  ∃gz t',relayAll t es (grown es.size)=(gz,t',false)∧gz.toList.Perm es.toList∧TOk t' (gz.toList.map (·.1))∧t'.plain=t.plain∧t'.led=t.led∧5*es.size<3*t'.mask:=by
 obtain ⟨t',order,e,pm,pf,sf,tk,h1,h2,h3,_⟩:=wz T full near small;refine ⟨_,t',?_,pf,tk,h1,h2,h3⟩;unfold relayAll;rw [e];dsimp only;have c:coversAll order es.size=true:=List.isPerm_iff.mpr pm
 have ft:t'.fits (order.filterMap (es[·]?)).size=true:=by
  have:=TOk.fits tk
  rw [aW,fH] at this;exact this
 rw [c,ft];rfl
end PySem
set_option maxHeartbeats 1000000
namespace PySem
open SetTable PyProof.Rows
section
variable {prog:Program} {w:World} {A:Around} {E:Value→Shared→Prop} {s:Shared}
theorem nV{h:Heap}{a:Addr}{o:Obj}{es:Array (Int×Value)}{ep:Nat}{t:SetTable}(ho:h.get? a=some o)(hd:o.data= .set es ep t)(gz:Array (Int×Value))(t':SetTable):
  (h.update a (Obj.putSet gz t')).get? a=some {o with data:= .set gz (ep+1) t'}:=by
 have:=Heap.get?_update_self (Obj.putSet gz t') ho (by rw [putSet_of gz t' hd];rfl)
 rw [putSet_of gz t' hd] at this;exact this
theorem tI{a:Addr}{o:Obj}{es:Array (Int×Value)}{ep:Nat}{t:SetTable}{k:Int}{x:Value}{Q:Bool→Shared→Prop}(ho:s.heap.get? a=some o)(S:eQ (cO w) o es ep t)(Jv:ElemsOf (intKind prog w) es.toList)
  (xc:(intKind prog w).is k x=true) (room:es.size≤305)
  (hm:(∃e∈es.toList,(intKind prog w).is k e.2=true)→Q false s)
  (hn:¬(∃e∈es.toList,(intKind prog w).is k e.2=true)→∀h' o' gz su t',Heap.SameBut a s.heap h'→h'.get? a=some o'→eQ (cO w) o' gz su t'→gz.toList.Perm (es.toList++ [((intKind prog w).hash k,x)])→Q true {s with heap:=h'}):
  wpAny (model prog w) A (setAddHashed a x ((intKind prog w).hash k)) Q E s:=by
 have hd:=S.dat;have hf:=S.fits;obtain ⟨tk,rfl⟩:=Value.isInt_shape xc;have JJ:(Value.int k tk).scannable=true:=rfl;have hb:es.size<scanBound:=by show es.size<4096;omega
 unfold setAddHashed setAddHashedIn;refine wpAny_holding (wpAny_bind (wpAny_setState_of ho hd hf ?_));dsimp only;rw [byScan_of JJ hb Jv];simp only [↓reduceIte];unfold setAddByScan;refine wpAny_bind ?_;refine wpAny_bind (wpAny_rule ?_);refine wpAny_bind (wpAny_setScan_of xc ho hd hf Jv ?_);cases hr:List.findIdx? (λe=>(intKind prog w).is k e.2) es.toList with
 |some j=>
  dsimp only;obtain ⟨hj,OU,_⟩:=List.findIdx?_eq_some_iff_getElem.mp hr;exact wpAny_pure (wpAny_pure (hm ⟨es.toList[j],og hj,OU⟩))
 |none=>
  dsimp only
  have nm:¬∃e∈es.toList,(intKind prog w).is k e.2=true:=by
   rintro ⟨e,he,hp⟩
   have:=List.findIdx?_eq_none_iff.mp hr e he
   rw [hp] at this;exact Bool.noConfusion this
  obtain ⟨p,t1,eL,T1,m1,p1,l1⟩:=vW S.tok S.few ((intKind prog w).hash k) (.int k tk);rw [eL];dsimp only;refine wpAny_bind (wpAny_pure ?_);rw [show t1.plain=true by rw [p1];exact S.pl]
  simp only [↓reduceIte];refine wpAny_bind ?_;rw [hashByValue_scannable 8 JJ];refine wpAny_pure ?_;simp only [plainKind, ↓reduceIte];have Bj:(SetTable.insertAt es p ((intKind prog w).hash k,Value.int k tk)).size=es.size+1:=SetTable.eD ..;have AM:=SetTable.insertAt_perm es p ((intKind prog w).hash k,Value.int k tk);rw [Array.toList_push] at AM;refine wpAny_bind (wpAny_storeSet_of ho hd ?_ (by rw [Bj];refine fits_of_scanBound ?_;show es.size+1<4096;omega))
  have ox:=nV ho hd (SetTable.insertAt es p ((intKind prog w).hash k,Value.int k tk)) t1;have LI:=Heap.SameBut.update s.heap a (Obj.putSet (SetTable.insertAt es p ((intKind prog w).hash k,Value.int k tk)) t1)
  by_cases full:t1.tooFull=true
  ·rw [full]
   simp only [Bool.not_false,Bool.and_true, ↓reduceIte];obtain ⟨Fs,t2,eR,CP,T2,p2,l2,f2⟩:=tw T1 full (by rw [Bj,m1];have:=S.few;omega) (by rw [Bj];omega)
   rw [eR];dsimp only;have L5:Fs.size=es.size+1:=by rw [←fH,CP.length_eq,fH,Bj]
   refine wpAny_bind (wpAny_pure ?_);refine wpAny_bind (wpAny_storeSet_of ox rfl ?_ (by rw [L5];refine fits_of_scanBound ?_;show es.size+1<4096;omega))
   have ug:=nV ox rfl Fs t2;refine wpAny_pure (wpAny_pure (hn nm _ _ Fs _ t2 (LI.trans (Heap.SameBut.update _ a _)) ug ⟨S.ex,rfl,T2,by rw [p2,p1];exact S.pl,by rw [l2,l1];exact S.ld,by rw [L5];rw [Bj] at f2;exact f2⟩ (CP.trans AM)))
  ·have ff:t1.tooFull=false:=by simpa using full
   rw [ff];simp only [Bool.not_false,Bool.and_false,u3, ↓reduceIte];refine wpAny_pure (wpAny_pure (hn nm _ _ _ _ t1 LI ox ⟨S.ex,rfl,T1,by rw [p1];exact S.pl,by rw [l1];exact S.ld,?_⟩ AM))
   unfold SetTable.tooFull SetTable.fill at ff;rw [T1.dum,T1.size] at ff;simp at ff;omega
theorem pk{Q₁:Value→Shared→Prop}
  (h:Q₁ (.ref s.heap.objs.size) {s with heap:=s.heap.push {cls:= .type "set",dict:=none,data:= .set #[] 0 (.fresh 0 0 (!cO w))}}):
  codeAny (model prog w) A (.call (.builtin "set.__new__") ⟨[.type "set"],[]⟩) (wants Q₁ E) s:=by
 refine codeAny_of_tree ?_;show wpAny _ A.in1 (do checkBuiltinCall "set.__new__" ⟨[.type "set"],[]⟩;again (.builtin "set.__new__" ⟨[.type "set"],[]⟩)) _ _ s
 refine wpAny_bind (wpAny_of_eq F.newCall_set_0 (wpAny_pure ⟨plainId_quiet F.plain_set_new _,codeAny_builtin F.entry_set_new ?_⟩));rw [Around.under_plainId F.plain_set_new _];unfold Builtin.«set.__new__» Builtin.Frozenset.newClass;have xg:=sub_set_self;obtain ⟨hp,g,d,tk,os⟩:=s;dsimp only
 wp_walk
 refine wpAny_askSetting (wpAny_pure ?_);dsimp only;simp only [newObj];refine wpAny_bind (wpAny_alloc (wpAny_pure ?_));exact wpAny_pure h
theorem sg{Q:Value→Shared→Prop}
  (h:Q (.ref s.heap.objs.size) {s with heap:=s.heap.push {cls:= .type "set",dict:=none,data:= .set #[] 0 (.fresh 0 0 (!cO w))}}):
  wpAny (model prog w) A (call (.type "set") []) Q E s:=by
 obtain ⟨c,tl,Sq⟩:=F.called_set.mro;have OM:=F.called_set.made;have xg:=F.called_set.sub;refine wpAny_call (codeAny_of_tree ?_);show wpAny _ _ (callAny (.type "set") _) _ _ _;refine wpAny_pure ⟨Code.quiet_builtin _ (by decide+kernel),codeAny_builtin F.entry_type_call ?_⟩
 rw [Around.under_plain (weight_type_call_type "set" [] []) rfl];have h1:=F.called_set.notType;have h2:=F.called_set.canCreate;have SK:=F.typeCall_set_0
 repeat (any_goals (first|assumption|wp_step))
 refine codeAny_mono (pk (E:=E) (Q₁:=λobj s₁=>obj= .ref s.heap.objs.size∧s₁={s with heap:=s.heap.push {cls:= .type "set",dict:=none,data:= .set #[] 0 (.fresh 0 0 (!cO w))}}) ⟨rfl,rfl⟩) λr s₁ hr=>?_
 cases r with
 |error e=>exact hr
 |ok fl=>
  cases fl with
  |ret obj=>
   obtain ⟨rfl,rfl⟩:=hr;have hS:(s.heap.push {cls:= .type "set",dict:=none,data:= .set #[] 0 (.fresh 0 0 (!cO w))}).get? s.heap.objs.size=some {cls:= .type "set",dict:=none,data:= .set #[] 0 (.fresh 0 0 (!cO w))}:=Heap.get?_push_size _ rfl;have hT:Shared.TypeIs {s with heap:=s.heap.push {cls:= .type "set",dict:=none,data:= .set #[] 0 (.fresh 0 0 (!cO w))}} (.ref s.heap.objs.size) "set":=⟨_,hS,rfl⟩
   have SO:=F.called_set.init.lookup;have SJ:=F.called_set.init.bind (.ref s.heap.objs.size)
   repeat (any_goals (first|assumption|wp_step))
   refine codeAny_mono (codeAny_call_builtin (R:=wants (λr xC=>r= .none∧Q (.ref s.heap.objs.size) xC) E) F.called_set.init.plain F.entry_set_init (check_set_init hT ?_)) λLG xC vP=>?_
   ·unfold Builtin.«set.__init__» noKeywords
    wp_walk
    exact ⟨rfl,h⟩
   ·cases LG with
    |error e=>exact vP
    |ok Fu=>
     cases Fu with
     |ret r=>
      obtain ⟨rfl,hq⟩:=vP
      repeat (any_goals (first|assumption|wp_step))
     |_=>exact vP.elim
  |_=>exact hr.elim
theorem eQ.new(w:World):eQ (cO w) {cls:= .type "set",dict:=none,data:= .set #[] 0 (.fresh 0 0 (!cO w))} #[] 0 (.fresh 0 0 (!cO w)) where
 ex:=⟨rfl,rfl,rfl⟩
 dat:=rfl
 tok:=⟨.inl rfl,rfl,λi j hj=>by simp [SetTable.fresh] at hj,rfl,λi j h=>by simp [SetTable.fresh] at h,by simp [SetTable.fresh],λi h e=>by simp at e⟩
 pl:=rfl
 ld:=rfl
 few:=by simp [SetTable.fresh]
end
namespace F
theorem ou:entryFor table "set.__iter__"=some Builtin.«frozenset.__iter__»:=
 entryFor_alias (id':="frozenset.__iter__") (by kernel_rfl) rfl (by decide+kernel) (by kernel_rfl)
theorem fT:Manifest.owners.lookup (String.ofList ['r','o','t','a','r','e','t','i','_','t','e','s'].reverse)=some Manifest.sig_set_iterator:=by kernel_rfl
theorem aY:Slot "set_iterator" "__next__" "set_iterator.__next__":=
 .of (owner:="set_iterator") (n:="__next__") (by rw [typeLookup_type,builtinLookup_eq_fast];kernel_rfl) (by decide+kernel) (by decide+kernel) (by decide+kernel)
  (by first|exact .inl (by decide+kernel) |exact .inr (by decide+kernel)) (by rw [isSubtype_type];kernel_rfl)
theorem dF:entryFor table "set_iterator.__next__"=some Builtin.«set_iterator.__next__»:=entryFor_of_tree (by kernel_rfl)
theorem dq(a:Value):argsOk "set_iterator.__next__" ⟨[a],[]⟩:=by
 unfold argsOk;rw [signature?_of (id:="set_iterator.__next__") (n:= ['_','_','t','x','e','n','_','_']) (o:= ['r','o','t','a','r','e','t','i','_','t','e','s']) (by kernel_rfl) fT];kernel_rfl
theorem dW:Slot "set_iterator" "__iter__" "set_iterator.__iter__":=
 .of (owner:="set_iterator") (n:="__iter__") (by rw [typeLookup_type,builtinLookup_eq_fast];kernel_rfl) (by decide+kernel) (by decide+kernel) (by decide+kernel)
  (by first|exact .inl (by decide+kernel) |exact .inr (by decide+kernel)) (by rw [isSubtype_type];kernel_rfl)
theorem ib:entryFor table "set_iterator.__iter__"=some Builtin.«dict_keyiterator.__iter__»:=
 entryFor_alias (id':="dict_keyiterator.__iter__") (by kernel_rfl) rfl (by decide+kernel) (by kernel_rfl)
theorem gU(a:Value):argsOk "set_iterator.__iter__" ⟨[a],[]⟩:=by
 unfold argsOk;rw [signature?_of (id:="set_iterator.__iter__") (n:= ['_','_','r','e','t','i','_','_']) (o:= ['r','o','t','a','r','e','t','i','_','t','e','s']) (by kernel_rfl) fT];kernel_rfl
end F
theorem nN{α:Type}:∀(l:List α)(i:Nat)(h:i<l.length),(l[i]::l.eraseIdx i).Perm l
 |y::l,0,_=> .refl _
 |y::l,i+1,h=>by
  have:=nN l i (by simpa using h)
  simp only [List.getElem_cons_succ,List.eraseIdx_cons_succ];exact (List.Perm.swap ..).trans (this.cons y)
theorem uE{α:Type}(next:Nat→Nat):∀(fuel k:Nat)(left:List α)(out:Array α),left.length≤fuel→(pickOrder.go next fuel k left out).toList.Perm (out.toList++left)
 |0,k,left,out,h=>by
  have:left= []:=List.length_eq_zero_iff.mp (by omega)
  subst this;simp [pickOrder.go]
 |fuel+1,k,[],out,h=>by
  simp [pickOrder.go]
 |fuel+1,k,y::left,out,h=>by
  have lt:next k%(y::left).length<(y::left).length:=om _ (by simp)
  unfold pickOrder.go;rw [eN lt];dsimp only;refine (uE next fuel (k+1) _ _ (by rw [List.length_eraseIdx_of_lt lt];simp at h ⊢;omega)).trans ?_
  rw [Array.toList_push,mw];refine List.Perm.append_left _ ?_;exact nN _ _ lt
def cS(w:World)(a:Addr)(ep:Nat)(es:Array (Int×Value)):Array (Int×Value):=if cO w=true then pickOrder (w.params.setOrder a ep) es else es
theorem qk(w:World)(a:Addr)(ep:Nat)(es:Array (Int×Value)):(cS w a ep es).toList.Perm es.toList:=by
 unfold cS
 split
 ·unfold pickOrder
  simpa using uE (w.params.setOrder a ep) es.size 0 es.toList #[] (by simp)
 ·exact .refl _
theorem gG(w:World)(a:Addr)(ep:Nat)(es:Array (Int×Value)):(cS w a ep es).size=es.size:=by
 rw [←fH,(qk w a ep es).length_eq,fH]
def b0(w:World)(t:SetTable)(i:Nat):Nat:=if cO w=true then 0 else if i=0 then 0 else t.place[i-1]! +1
section
variable {prog:Program} {w:World} {A:Around} {E:Value→Shared→Prop} {s:Shared}
theorem tQ{t:SetTable}{hs:List Int}(T:TOk t hs)(hb:cO w=false){i:Nat}(hi:i≤hs.length):below t.place (b0 w t i)=i:=by
 have sz:=T.size;obtain ⟨b1,b2,b3⟩:=fw T.rise (b0 w t i);unfold b0 at*;rw [if_neg (by rw [hb];exact dP)] at*
 by_cases z:i=0
 ·rw [if_pos z] at*
  rcases Nat.eq_zero_or_pos (below t.place 0) with h|h
  ·rw [h,z]
  ·exact absurd (b2 0 h) (Nat.not_lt_zero _)
 ·rw [if_neg z] at*
  generalize below t.place (t.place[i-1]! +1)=b at*
  rcases Nat.lt_trichotomy b i with h|h|h
  ·have:=b3 (i-1) (by omega) (by omega)
   omega
  ·exact h
  ·have:=b2 i h
   have:=T.rise (i-1) i (by omega) (by omega)
   omega
theorem iP{a:Addr}{o:Obj}{es:Array (Int×Value)}{ep:Nat}{t:SetTable}{i:Nat}{Q:Option (Value×Nat)→Shared→Prop}(ho:s.heap.get? a=some o)(S:eQ (cO w) o es ep t)(hi:i≤es.size)
  (h:Q (((cS w a ep es)[i]?).map λe=>(e.2,b0 w t (i+1))) s):wpAny (model prog w) A (setNext a (b0 w t i) i ep) Q E s:=by
 have hd:=S.dat;have hf:=S.fits;unfold setNext;refine wpAny_bind (wpAny_setState_of ho hd hf ?_);dsimp only;unfold setsByText;refine wpAny_bind (wpAny_bind (wpAny_askSetting (wpAny_pure ?_)));cases hb:cO w with
 |true=>
  refine wpAny_ite_true (decide_eq_true (show w.params.followText "set-order"=true from hb)) ?_;rw [if_neg (by simp)]
  unfold setWalk setsByText;refine wpAny_bind (wpAny_bind (wpAny_setState_of ho hd hf ?_));dsimp only;refine wpAny_bind (wpAny_bind (wpAny_askSetting (wpAny_pure ?_)));refine wpAny_ite_true (decide_eq_true (show w.params.followText "set-order"=true from hb)) ?_;refine wpAny_bind (wpAny_askSetting (wpAny_pure (wpAny_pure ?_)));unfold cS b0 at h;rw [if_pos hb,if_pos hb] at h;unfold b0;rw [if_pos hb];exact h
 |false=>
  refine wpAny_ite_false (decide_eq_false (show ¬w.params.followText "set-order"=true from by rw [show w.params.followText "set-order"=false from hb];exact dP)) ?_
  refine wpAny_ite_false ?_ ?_
  ·refine decide_eq_false ?_
   show ¬((!t.plain&&decide (es.size>1))=true);rw [S.pl];simp
  refine wpAny_bind ?_;show wpAny _ _ (if (!t.led&& !es.isEmpty)=true then _ else _) _ _ _;rw [if_neg (by rw [S.ld,hb];simp)]
  refine wpAny_pure ?_;have bn:=tQ (w:=w) S.tok hb (i:=i) (by simpa using hi)
  rw [bn];refine wpAny_pure ?_;have sz:t.place.size=es.size:=by rw [S.tok.size];simp
  unfold cS at h;rw [if_neg (by rw [hb];exact dP)] at h
  by_cases lt:i<es.size
  ·have lp:i<t.place.size:=by omega
   rw [nZ lt] at h ⊢;rw [nZ lp];dsimp only
   have e:b0 w t (i+1)=t.place[i]+1:=by
    unfold b0;rw [if_neg (by rw [hb];exact dP),if_neg (by omega)]
    simp [lp]
   rw [Option.map_some,e] at h;exact h
  ·rw [xH (by omega)] at h ⊢
   exact h
end
def eV(w:World)(h:Heap)(I a:Addr)(t:SetTable)(i n ep:Nat):Prop:=
 ∃o,h.get? I=some o∧o.cls= .type "set_iterator"∧o.data= .fields #[.int (b0 w t i:Nat) 0, .int i 0, .ref a, .int n 0, .int ep 0]
section
variable {prog:Program} {w:World} {A:Around} {E:Value→Shared→Prop} {s:Shared}
theorem eV.typeIs{I a:Addr}{t:SetTable}{i n ep:Nat}(x:eV w s.heap I a t i n ep):s.TypeIs (.ref I) "set_iterator":=let ⟨o,ho,hc,_⟩:=x;⟨o,ho,hc⟩
theorem mm{a:Addr}{o:Obj}{es:Array (Int×Value)}{ep:Nat}{t:SetTable}{Q:Value→Shared→Prop}(ho:s.heap.get? a=some o)(S:eQ (cO w) o es ep t)
  (hQ:Q (.ref s.heap.objs.size) {s with heap:=s.heap.push {cls:= .type "set_iterator",data:= .fields #[.int (b0 w t 0:Nat) 0, .int (0:Nat) 0, .ref a, .int es.size 0, .int ep 0]}}):
  wpAny (model prog w) A (pyIter (.ref a)) Q E s:=by
 have hd:=S.dat;have hf:=S.fits;have hT:s.TypeIs (.ref a) "set":=⟨o,ho,S.ex.1⟩;refine wpAny_pyIter_slot hT F.slot_set_iter (wpAny_call_entry F.slot_set_iter hT F.ou ?_ (F.args_set_iter_1 _));unfold Builtin.«frozenset.__iter__» Builtin.Frozenset.slot0 slotArgs;simp only [List.isEmpty_nil,Bool.not_true,u3, ↓reduceIte,bind_assoc,qD,bne_self_eq_false];unfold Builtin.Frozenset.addrOf Builtin.Frozenset.sizeOf;refine wpAny_bind (wpAny_pure ?_)
 try dsimp only
 refine wpAny_bind (wpAny_pure ?_);refine wpAny_bind (wpAny_bind (wpAny_setEntries_of ho hd hf (wpAny_pure ?_)));unfold setDrawn setsByText;refine wpAny_bind (wpAny_bind (wpAny_setState_of ho hd hf ?_));dsimp only;refine wpAny_bind (wpAny_bind (wpAny_askSetting (wpAny_pure ?_)));refine wpAny_pure ?_;refine wpAny_ite_false ?_ ?_
 ·refine decide_eq_false ?_
  show ¬((!w.params.followText "set-order"&&(!t.plain&&decide (es.size>1)))=true);rw [S.pl];simp
 refine wpAny_bind (wpAny_pure ?_);refine wpAny_bind ?_;unfold setEpoch;refine wpAny_bind (wpAny_setState_of ho hd hf (wpAny_pure ?_));refine wpAny_bind (wpAny_newObj_type (wpAny_pure ⟨_,rfl,"set_iterator",_,⟨_,Heap.get?_push_size _ rfl,rfl⟩,F.aY.lookup,?_⟩));have e:b0 w t 0=0:=by unfold b0;simp
 rw [e] at hQ;exact hQ
theorem mn{I a:Addr}{o:Obj}{es:Array (Int×Value)}{ep:Nat}{t:SetTable}{i:Nat}{x:Int×Value}{Q:Option Value→Shared→Prop}(hit:eV w s.heap I a t i es.size ep)(ho:s.heap.get? a=some o)(S:eQ (cO w) o es ep t)
  (hx:(cS w a ep es)[i]? =some x) (hQ:∀h',eV w h' I a t (i+1) es.size ep→Heap.SameBut I s.heap h'→Q (some x.2) {s with heap:=h'}):wpAny (model prog w) A (pyNext (.ref I)) Q E s:=by
 obtain ⟨oi,ym,hc,hd⟩:=id hit
 have hi:i<es.size:=by
  have:=(uY.mp hx).1
  rwa [gG] at this
 unfold pyNext
 refine wpAny_bind (wpAny_attempt (wpAny_callSpecial?_slot (name:=Str.ofString "__next__") hit.typeIs F.aY
  (wpAny_call_entry F.aY hit.typeIs F.dF ?_ (F.dq _))))
 unfold Builtin.«set_iterator.__next__»;refine wpAny_bind (m:=slotArgs "__next__" 0 _) (wpAny_pure ?_);refine wpAny_bind (wpAny_fieldsOf ym hd ?_);dsimp only;refine wpAny_bind (wpAny_setEntries_of ho S.dat S.fits ?_);rw [if_neg (by simp)]
 refine wpAny_bind ?_;rw [qA,qA,qA];refine iP ho S (rY hi) ?_;rw [hx];dsimp only [Option.map_some];refine wpAny_bind (wpAny_setField ym hd (by simp) ?_)
 have ox:=Heap.get?_update_self (Obj.mapFields (·.setIfInBounds 0 (rawInt (b0 w t (i+1):Nat)))) ym (Obj.isFreed_of_fields (Obj.data_mapFields hd _));have zT:=Obj.data_mapFields hd (·.setIfInBounds 0 (rawInt (b0 w t (i+1):Nat)));refine wpAny_bind (wpAny_setField ox zT (by simp) ?_)
 have ug:=Heap.get?_update_self (Obj.mapFields (·.setIfInBounds 1 (rawInt ((i:Int)+1)))) ox (Obj.isFreed_of_fields (Obj.data_mapFields zT _));refine wpAny_pure ⟨_,rfl,wpAny_pure (hQ _ ⟨_,ug,?_,?_⟩ ((Heap.SameBut.update ..).trans (Heap.SameBut.update ..)))⟩
 ·exact (Obj.cls_mapFields ..).trans ((Obj.cls_mapFields ..).trans hc)
 ·rw [Obj.data_mapFields zT];simp [rawInt]
theorem jq{I a:Addr}{o:Obj}{es:Array (Int×Value)}{ep:Nat}{t:SetTable}{Q:Option Value→Shared→Prop}(hh:A.handled=none)(hit:eV w s.heap I a t es.size es.size ep)(ho:s.heap.get? a=some o)(S:eQ (cO w) o es ep t)
  (hQ:∀h',Heap.ExtBut I s.heap h'→Q none {s with heap:=h'}):wpAny (model prog w) A (pyNext (.ref I)) Q E s:=by
 obtain ⟨oi,ym,hc,hd⟩:=id hit;unfold pyNext
 refine wpAny_bind (wpAny_attempt (wpAny_callSpecial?_slot (name:=Str.ofString "__next__") hit.typeIs F.aY
  (wpAny_call_entry F.aY hit.typeIs F.dF ?_ (F.dq _))))
 unfold Builtin.«set_iterator.__next__»;refine wpAny_bind (m:=slotArgs "__next__" 0 _) (wpAny_pure ?_);refine wpAny_bind (wpAny_fieldsOf ym hd ?_);dsimp only;refine wpAny_bind (wpAny_setEntries_of ho S.dat S.fits ?_);rw [if_neg (by simp)]
 refine wpAny_bind ?_;rw [qA,qA,qA];refine iP ho S (bC _) ?_;rw [xH (by rw [gG];exact bC _)]
 dsimp only [Option.map_none];refine wpAny_bind (wpAny_setField ym hd (by simp) ?_)
 show wpAny _ _ (newExc (.type "StopIteration") []>>=_) _ _ _;refine wpAny_bind ?_;simp only [newExc,newTuple];refine wpAny_bind (wpAny_newObj_type ?_ (by size_fits))
 refine wpAny_bind (m:=firstArgMember _ _) (wpAny_of_eq (a:=Value.none) (by first|rfl| (simp only [firstArgMember];rfl)) ?_)
 refine wpAny_newObj_type ?_ (by size_fits)
 simp only [raiseNew];refine wpAny_bind (wpAny_handled ?_);rw [show A.in1.handled=none from hh];refine wpAny_bind (wpAny_pure (wpAny_throw ?_));refine wpAny_bind (wpAny_isInstance (T:="StopIteration") (b:=true) ⟨_,Heap.get?_push_size _ rfl,rfl⟩ isSubtype_stop ?_);exact wpAny_pure (hQ _ (((Heap.SameBut.update ..).extBut.push _).push _))
theorem Walks.sets(hh:A.handled=none)(I a:Addr)(z1:a≠I){o:Obj}{es:Array (Int×Value)}{ep:Nat}{t:SetTable}(S:eQ (cO w) o es ep t):
  Walks prog w A I [I,a] [I] es.size (λi v=>∃x,(cS w a ep es)[i]? =some x∧v=x.2) (λi h=>eV w h I a t i es.size ep∧h.get? a=some o) where
 sub:=λb hb=>by simp at hb;simp [hb]
 frame:=λi h h' st hk=>⟨let ⟨oi,ho,r⟩:=st.1;⟨oi,hk I (by simp) _ ho,r⟩,hk a (by simp) _ st.2⟩
 item:=λi s Q E hi st hQ=>by
  have hx:(cS w a ep es)[i]? =some ((cS w a ep es)[i]'(by rw [gG];exact hi)):=nZ _
  refine mn st.1 st.2 S hx λh' zX sD=>?_;exact hQ _ h' s.toks ⟨_,hx,rfl⟩ ⟨zX,(sD.2 a z1).trans st.2⟩ λb o hb e=>sD.extBut b o (λh=>hb (by simp [h])) e
 done:=λs Q E st hQ=>jq hh st.1 st.2 S λh' zU=>hQ h' s.toks λb o hb e=>zU b o (λh=>hb (by simp [h])) e
 self:=λi s Q E st hQ=>by
  refine wpAny_pyIter_slot st.1.typeIs F.dW (wpAny_call_entry F.dW st.1.typeIs F.ib ?_ (F.gU _));unfold Builtin.«dict_keyiterator.__iter__»;refine wpAny_bind (m:=slotArgs "__iter__" 0 _) (wpAny_pure ?_);exact wpAny_pure ⟨_,rfl,"set_iterator",_,st.1.typeIs,F.aY.lookup,hQ⟩
end
section
variable {prog:Program} {w:World} {A:Around} {E:Value→Shared→Prop} {s:Shared}
theorem lh{a:Addr}{o:Obj}{es:Array (Int×Value)}{ep:Nat}{t:SetTable}{Q:List Value→Shared→Prop}(hh:A.handled=none)(ho:s.heap.get? a=some o)(S:eQ (cO w) o es ep t)
  (hQ:∀h' tk,s.heap.objs.size<h'.objs.size→(∀b o,s.heap.get? b=some o→h'.get? b=some o)→Q ((cS w a ep es).toList.map (·.2)) {s with heap:=h',toks:=tk}) (hn:es.size≤sizeLine:=by size_fits):
  wpAny (model prog w) A (collect (.ref a)) Q E s:=by
 have ha:a<s.heap.objs.size:=Heap.lt_size ho;unfold collect;refine wpAny_bind (wpAny_runValue (codeAny_builtin F.entry_proto_collect ?_));rw [Around.under_plainId F.plain_proto_collect _];show wpAny _ A.in1 (newList []>>=λl=>again (.builtin "list.__iadd__" ⟨[l, .ref a],[]⟩)) _ _ s;refine wpAny_bind (wpAny_newObj_type ?_);refine wpAny_pure ⟨plainId_quiet F.plain_list_iadd _,codeAny_builtin F.entry_list_iadd ?_⟩;rw [Around.under_plainId F.plain_list_iadd _];have ox:(s.heap.push {cls:= .type "list",data:= .seq ([]:List Value).toArray}).get? a=some o:=Heap.get?_push_of_some _ ho;show wpAny _ A.in1 (Builtin.List.listExtendWith (.ref s.heap.objs.size) (.ref a) (.ref s.heap.objs.size)) _ _ {s with heap:=s.heap.push {cls:= .type "list",data:= .seq ([]:List Value).toArray}}
 unfold Builtin.List.listExtendWith;have hT:Shared.TypeIs {s with heap:=s.heap.push {cls:= .type "list",data:= .seq ([]:List Value).toArray}} (.ref a) "set":=⟨o,ox,S.ex.1⟩
 refine wpAny_bind (wpAny_typeOf hT ?_);have h1:Builtin.List.listSameRef (.ref s.heap.objs.size) (.ref a)=false:=by simp [Builtin.List.listSameRef,Nat.ne_of_gt ha]
 have h2:(Value.type "set"==Value.type "list")=false:=by decide
 have h3:(Value.type "set"==Value.type "tuple")=false:=by decide
 simp only [h1,h2,h3,Bool.or_false,u3,if_false];refine wpAny_bind (mm ox S ?_);generalize hI:(s.heap.push {cls:= .type "list",data:= .seq ([]:List Value).toArray}).objs.size=I;have Fz:I=s.heap.objs.size+1:=by rw [←hI,size_push']
 have Og:a≠I:=by rw [Fz];exact cn (Nat.lt_succ_of_lt ha)
 have BY:s.heap.objs.size≠I:=by rw [Fz];exact cn (Nat.lt_succ_self _)
 have Jh:s.heap.objs.size≠a:=Nat.ne_of_gt ha;have FA:((s.heap.push {cls:= .type "list",data:= .seq ([]:List Value).toArray}).push {cls:= .type "set_iterator",data:= .fields #[.int (b0 w t 0:Nat) 0, .int (0:Nat) 0, .ref a, .int es.size 0, .int ep 0]}).get? s.heap.objs.size=some {cls:= .type "list",data:= .seq ([]:List Value).toArray}:=Heap.get?_push_of_some _ (Heap.get?_push_size _ rfl);have Jf:((s.heap.push {cls:= .type "list",data:= .seq ([]:List Value).toArray}).push {cls:= .type "set_iterator",data:= .fields #[.int (b0 w t 0:Nat) 0, .int (0:Nat) 0, .ref a, .int es.size 0, .int ep 0]}).get? I=some {cls:= .type "set_iterator",data:= .fields #[.int (b0 w t 0:Nat) 0, .int (0:Nat) 0, .ref a, .int es.size 0, .int ep 0]}:=by rw [←hI];exact Heap.get?_push_size _ rfl
 have zQ:((s.heap.push {cls:= .type "list",data:= .seq ([]:List Value).toArray}).push {cls:= .type "set_iterator",data:= .fields #[.int (b0 w t 0:Nat) 0, .int (0:Nat) 0, .ref a, .int es.size 0, .int ep 0]}).get? a=some o:=Heap.get?_push_of_some _ ox;have Ej:∀b o,s.heap.get? b=some o→((s.heap.push {cls:= .type "list",data:= .seq ([]:List Value).toArray}).push {cls:= .type "set_iterator",data:= .fields #[.int (b0 w t 0:Nat) 0, .int (0:Nat) 0, .ref a, .int es.size 0, .int ep 0]}).get? b=some o:=λb o e=>Heap.get?_push_of_some _ (Heap.get?_push_of_some _ e);generalize ((s.heap.push {cls:= .type "list",data:= .seq ([]:List Value).toArray}).push {cls:= .type "set_iterator",data:= .fields #[.int (b0 w t 0:Nat) 0, .int (0:Nat) 0, .ref a, .int es.size 0, .int ep 0]})=h2 at FA Jf zQ Ej ⊢;have FD:Shared.TypeIs {s with heap:=h2} (.ref a) "set":=⟨o,zQ,S.ex.1⟩
 refine wpAny_bind (wpAny_holding ?_);unfold Builtin.List.listLengthHint;refine wpAny_bind (wpAny_specialOf FD F.slot_set_len.lookup ?_)
 (generalize yh:("set.__len__":String)=B7;(fail_if_success (clear yh B7));wp_delta;rw [show splitId B7=some ("set","__len__") from by subst yh;decide+kernel];subst yh)
 refine wpAny_bind (wpAny_isInstance (b:=true) FD sub_set_self ?_);dsimp only;refine wpAny_ite_false (by decide) ?_
 refine wpAny_ite_true (by decide+kernel) ?_
 refine wpAny_bind (wpAny_typeOf FD ?_);refine wpAny_pure ?_;refine wpAny_ite_true (by decide+kernel) ?_
 refine wpAny_bind (wpAny_rule ?_);refine wpAny_bind ?_;show wpAny _ A.in1 (updateSeq s.heap.objs.size (·.push .none)>>=λ_=>updateSeq s.heap.objs.size (·.pop)) _ _ _;refine wpAny_bind (wpAny_updateSeq FA rfl ?_);have sA:=Heap.get?_update_self (Obj.mapSeq (·.push Value.none)) FA rfl;refine wpAny_updateSeq sA rfl ?_;have FC:=Heap.get?_update_self (Obj.mapSeq (·.pop)) sA rfl
 have yz:∀b o,b≠s.heap.objs.size→h2.get? b=some o→
   ((h2.update s.heap.objs.size (Obj.mapSeq (·.push Value.none))).update s.heap.objs.size (Obj.mapSeq (·.pop))).get? b=some o:=
  λb o hb e=>(Heap.get?_update_other _ _ (Ne.symm hb)).trans ((Heap.get?_update_other _ _ (Ne.symm hb)).trans e)
 have W:=(Walks.sets (prog:=prog) (A:=A.in1) hh I a Og S).toS;have ne1:s.heap.objs.size∉ [I,a]:=by simp [BY,Jh]
 refine wpAny_pure ⟨plainId_quiet F.plain_extend_loop _,codeAny_extend_loopS W hn _ ne1 _ es.size 0 _ _ _ rfl (fI _)
  ⟨⟨_,yz _ _ (Ne.symm BY) Jf,rfl,rfl⟩,yz _ _ (Ne.symm Jh) zQ⟩ FC (ItemsOf.nil _) λs' bV c' hm sy lJ=>?_⟩
 show wpAny _ A (load s.heap.objs.size>>=_) _ _ s';refine wpAny_bind (wpAny_load sy ?_)
 have gz:s'={s with heap:=s'.heap,toks:=s'.toks}:=by
  obtain ⟨jn,g',d',Ta,Gj⟩:=s';obtain ⟨_,hg,hd,sC,_⟩:=hm;have hg:g'=s.gens:=hg;have hd:d'=s.drawn:=hd;have sC:Gj=s.os:=sC;subst hg hd sC;rfl
 have ea:bV.toList=(cS w a ep es).toList.map (·.2):=by
  refine List.ext_getElem? λj=>?_;rw [n4,cU,n4];have sz:bV.size=(cS w a ep es).size:=by rw [lJ.1,gG]
  by_cases lt:j<bV.size
  ·obtain ⟨x,hx,hv⟩:=lJ.2 j bV[j] (nZ lt)
   rw [hx,nZ lt,hv];rfl
  ·rw [xH (by omega),xH (by omega)];rfl
 rw [gz];show wpAny _ _ (pure bV.toList) Q E _;rw [ea];refine wpAny_pure (hQ _ _ (Heap.lt_size sy) λb o e=>?_);have hb:=Heap.lt_size e;have b1:b≠s.heap.objs.size:=cn hb;have b2:b≠I:=by rw [Fz];exact cn (Nat.lt_succ_of_lt hb)
 exact hm.heap b o (by simp [b1,b2]) (yz b o b1 (Ej b o e))
theorem pU{vs us:List Value}(p:us.Perm vs):∀{ns:List Int},IntsAre vs ns→∃ms,IntsAre us ms∧ms.Perm ns:=by
 induction p with
 |nil=>intro ns h;exact ⟨ns,h, .refl _⟩
 |cons x _ ih=>
  intro ns h;cases h with
  |cons n t h=>
   obtain ⟨ms,a,b⟩:=ih h;exact ⟨n::ms, .cons n t a,b.cons n⟩
 |swap x y l=>
  intro ns h;cases h with
  |cons n t h=>
   cases h with
   |cons m u h=>exact ⟨_, .cons m u (.cons n t h), .swap ..⟩
 |trans _ _ O5 O6=>
  intro ns h;obtain ⟨ms,a,b⟩:=O6 h;obtain ⟨ls,c,d⟩:=O5 a;exact ⟨ls,c,d.trans b⟩
theorem uM{a:Addr}{o:Obj}{es:Array (Int×Value)}{ep:Nat}{t:SetTable}{ns:List Int}{Q:Value→Shared→Prop}(hh:A.handled=none)(ho:s.heap.get? a=some o)(S:eQ (cO w) o es ep t)(hI:IntsAre (es.toList.map (·.2)) ns)(Od:es.size<64)
  (h:∀h' tk q (out:Array Value) (e:Nat) (ms:List Int),(∀b o,s.heap.get? b=some o→h'.get? b=some o)→s.heap.objs.size≤q→h'.get? q=some {cls:= .type "list",data:= .seq out e}→IntsAre out.toList ms→ms.Perm ns→ms.Pairwise (·≤·)→Q (.ref q) {s with heap:=h',toks:=tk}):
  wpAny (model prog w) A (call (.builtin "sorted") [.ref a]) Q E s:=by
 have pm:=(qk w a ep es).map (λe:Int×Value=>e.2);obtain ⟨F7,i1,i2⟩:∃F7,IntsAre ((cS w a ep es).toList.map (·.2)) F7∧F7.Perm ns:=pU pm hI;have sz:((cS w a ep es).toList.map (·.2)).length=es.size:=by rw [aW,fH,gG]
 refine Calls.call_function_entry kind_sorted plain_sorted entry_sorted (args_sorted1 _) ?_;unfold Builtin.«sorted»;refine wpAny_bind (m:=checkCount "sorted" 1 1 _) (wpAny_pure ?_);have line:64≤sizeLine:=by decide
 refine wpAny_bind (lh hh ho S (λh1 tk1 QR K9=>?_) (by omega))
 refine wpAny_bind (wpAny_newList ?_ (by rw [sz];omega))
 have z3:(h1.push (seqObj "list" ((cS w a ep es).toList.map (·.2)).toArray 0)).get? h1.objs.size=some (seqObj "list" ((cS w a ep es).toList.map (·.2)).toArray 0):=Heap.get?_push_size _ rfl;refine wpAny_bind (wpAny_holding (wpAny_call_entry slot_list_sort ⟨_,z3,rfl⟩ entry_list_sort (list_sort_tree z3 i1 (by rw [sz];exact Od) λout ms a1 a2 a3=>⟨_,rfl,?_⟩) (args_list_sort _)))
 obtain ⟨e1,ox⟩:∃e1,((h1.push (seqObj "list" ((cS w a ep es).toList.map (·.2)).toArray 0)).update h1.objs.size (Obj.mapSeq λ_=> #[])).get? h1.objs.size=some (seqObj "list" #[] e1):=⟨_,get?_update_seq z3 (λ_=> #[])⟩;have oy:((h1.push (seqObj "list" ((cS w a ep es).toList.map (·.2)).toArray 0)).update h1.objs.size (Obj.mapSeq λ_=> #[])).objs.size=h1.objs.size+1:=by rw [Heap.size_update,size_push']
 have OQ:((((h1.push (seqObj "list" ((cS w a ep es).toList.map (·.2)).toArray 0)).update h1.objs.size (Obj.mapSeq λ_=> #[])).push (seqObj "tuple" ((cS w a ep es).toList.map (·.2)).toArray 0)).push (seqObj "list" #[] 0)).get? h1.objs.size=some (seqObj "list" #[] e1):=
  Heap.get?_push_of_some _ (Heap.get?_push_of_some _ ox)
 have Jw:=get?_update_seq OQ (λ_=>out);refine wpAny_pure ⟨_,rfl,h _ _ h1.objs.size out _ ms (λb o e=>?_) (rY QR) Jw a1 (a2.trans i2) a3⟩;have eb:=K9 b o e;have nb:b≠h1.objs.size:=cn (Heap.lt_size eb);show ((((((h1.push (seqObj "list" ((cS w a ep es).toList.map (·.2)).toArray 0)).update h1.objs.size (Obj.mapSeq λ_=> #[])).push (seqObj "tuple" ((cS w a ep es).toList.map (·.2)).toArray 0)).push (seqObj "list" #[] 0)).update h1.objs.size (Obj.mapSeq λ_=>out))).get? b=some o;rw [Heap.get?_update_ne _ _ _ _ nb];refine Heap.get?_push_of_some _ (Heap.get?_push_of_some _ ?_);rw [Heap.get?_update_ne _ _ _ _ nb];exact Heap.get?_push_of_some _ eb
end
end PySem
set_option maxHeartbeats 4000000
namespace L2
open PySem PySem.Spec PyProof.Rows
inductive FV where
 |int (i:Int) |bl (b:Bool)
inductive XD where
 |Em (b:Bool) (ps:List (Int×Int)) |lW (ks:List (Int×Int)) (vs:List FV)
inductive D where
 |aT|bl (b:Bool) |int (i:Int) |str (x:Str) |lst (l:List D) |tup (l:List D) |e9 (ns:List Int) |rng (lo hi:Int) |obj (a:Addr) |iO (w:List (List Nat)) |set (b:Bool) (l:List Int) |x (k:XD)
structure DC where
 K:PySem.W.Frag
 C:Addr
def ag(n:Nat):D:= .int n
def ao(r:List Nat):D:= .lst (r.map ag)
def aC(w:List (List Nat)):D:= .lst (w.map ao)
def nz(es:Array (Int×Value))(ns:List Int):Prop:=(∀e∈es.toList,∃k t,e=(hashInt k,Value.int k t))∧ns.Nodup∧∃ms,IntsAre (es.toList.map (·.2)) ms∧ms.Perm ns
def dm(b:Bool)(a:Addr)(ns:List Int)(h:Heap):Prop:=∃o es ep t,h.get? a=some o∧eQ b o es ep t∧nz es ns
def cG(p:Int×Int):Int:=reduceHash (Builtin.Tuple.tupleHashOf [hashInt p.1,hashInt p.2])
inductive kf (H:Hp):List (Int×Addr)→List (Int×Int)→Prop
 |nil:kf H [] []
 |cons {a:Addr} {p:Int×Int} {es:List (Int×Addr)} {ps:List (Int×Int)}:H a=some (.tup [.int p.1, .int p.2])→kf H es ps→kf H ((cG p,a)::es) (p::ps)
theorem kf.mono{H H':Hp}(s:aO H H'):∀{es:List (Int×Addr)}{ps:List (Int×Int)},kf H es ps→kf H' es ps
 |_,_, .nil=> .nil
 |_,_, .cons h t=> .cons (s _ _ h) (t.mono s)
def Ey(b:Bool)(a:Addr)(es:List (Int×Addr))(h:Heap):Prop:=∃o eA ep t,h.get? a=some o∧eQ b o eA ep t∧eA.toList.Perm (es.map λe=>(e.1,Value.ref e.2))
def Bw:FV→Value→Prop
 | .int i,v=>∃t,v= .int i t
 | .bl b,v=>v= .bool b
inductive xN:List DictEntry→List (Int×Addr)→List FV→Prop
 |nil:xN [] [] []
 |cons {e:DictEntry} {l:List DictEntry} {h:Int} {a:Addr} {v:FV} {es:List (Int×Addr)} {vs:List FV}:e.hash=h→e.key= .ref a→Bw v e.val→xN l es vs→xN (e::l) ((h,a)::es) (v::vs)
def eu(a:Addr)(es:List (Int×Addr))(vs:List FV)(h:Heap):Prop:=(a==sysModules)=false∧∃o eA ep,h.get? a=some o∧o.ExactDict∧o.data= .dict eA ep∧xN eA.toList es vs
def xO(H:Hp)(a:Addr)(φ:Heap→Prop):XD→Prop
 | .Em b ps=>ps.Nodup∧∃es,φ=Ey b a es∧kf H es ps
 | .lW ks vs=>ks.Nodup∧∃es,φ=eu a es vs∧kf H es ks
theorem xO.mono{H H':Hp}(s:aO H H'){a:Addr}{φ:Heap→Prop}:∀{k:XD},xO H a φ k→xO H' a φ k
 | .Em _ _,⟨n,es,e,p⟩=>⟨n,es,e,p.mono s⟩
 | .lW _ _,⟨n,es,e,p⟩=>⟨n,es,e,p.mono s⟩
mutual
inductive Dv (Z:DC) (H:Hp):V→D→Prop
 |aT:Dv Z H .aT .aT
 |bl (b:Bool):Dv Z H (.bl b) (.bl b)
 |int (i:Int):Dv Z H (.int i) (.int i)
 |str (x:Str) (h:PyData.strOk x=true):Dv Z H (.str x) (.str x)
 |lst {a:Addr} {xs:List V} {ds:List D}:H a=some (.lst xs)→au Z H xs ds→Dv Z H (.ref a) (.lst ds)
 |tup {a:Addr} {xs:List V} {ds:List D}:H a=some (.tup xs)→au Z H xs ds→Dv Z H (.ref a) (.tup ds)
 |obj (a:Addr):Dv Z H (.ref a) (.obj a)
 |rng {a:Addr} {lo hi:Int}:H a=some (.rng lo hi)→Dv Z H (.ref a) (.rng lo hi)
 |e9 {a:Addr} {ns:List Int}:bE Z.K H a (ns.map V.int)→ns.length≤63→Dv Z H (.ref a) (.e9 ns)
 |iO {p dx R:Addr} {w:List (List Nat)}:H p=some (.ins Z.C dx [("rows", .ref R)])→Dv Z H (.ref R) (aC w)→Wb.Good w→1≤w.length→w.length≤14→Dv Z H (.ref p) (.iO w)
 |set {a:Addr} {b:Bool} {ns:List Int}:H a=some (.ext (dm b a ns))→Dv Z H (.ref a) (.set b ns)
 |x {a:Addr} {φ:Heap→Prop} {k:XD}:H a=some (.ext φ)→xO H a φ k→Dv Z H (.ref a) (.x k)
inductive au (Z:DC) (H:Hp):List V→List D→Prop
 |nil:au Z H [] []
 |cons {v:V} {vs:List V} {d:D} {ds:List D}:Dv Z H v d→au Z H vs ds→au Z H (v::vs) (d::ds)
end
theorem bE.mono{K:PySem.W.Frag}{H H':Hp}{a:Addr}{xs:List V}(s:aO H H')(h:bE K H a xs):bE K H' a xs:=by
 rcases h with (h| ⟨o,h⟩) |h
 ·exact .inl (.inl (s _ _ h))
 ·exact .inl (.inr ⟨o,s _ _ h⟩)
 ·exact .inr h
section
variable {Z:DC} {H H' G G':Hp}
theorem Dv.ofInt{v:V}{i:Int}(h:Dv Z H v (.int i)):v= .int i:=by cases h;rfl
theorem Dv.K6{v:V}{b:Bool}(h:Dv Z H v (.bl b)):v= .bl b:=by cases h;rfl
theorem Dv.ik{v:V}{ds:List D}(h:Dv Z H v (.lst ds)):∃a xs,v= .ref a∧H a=some (.lst xs)∧au Z H xs ds:=by cases h with|lst h e=>exact ⟨_,_,rfl,h,e⟩
theorem Dv.kR{v:V}{ds:List D}(h:Dv Z H v (.tup ds)):∃a xs,v= .ref a∧H a=some (.tup xs)∧au Z H xs ds:=by cases h with|tup h e=>exact ⟨_,_,rfl,h,e⟩
theorem Dv.Ar{v:V}{ns:List Int}(h:Dv Z H v (.e9 ns)):∃a,v= .ref a∧bE Z.K H a (ns.map V.int)∧ns.length≤63:=by cases h with|e9 h z=>exact ⟨_,rfl,h,z⟩
theorem au.F9{vs:List V}(h:au Z H vs []):vs= []:=by cases h;rfl
theorem au.xn{vs:List V}{d:D}{ds:List D}(h:au Z H vs (d::ds)):∃v us,vs=v::us∧Dv Z H v d∧au Z H us ds:=by cases h with|cons a b=>exact ⟨_,_,rfl,a,b⟩
theorem au.ofOne{vs:List V}{d:D}(h:au Z H vs [d]):∃v,vs= [v]∧Dv Z H v d:=by
 obtain ⟨v,us,rfl,a,b⟩:=h.xn;rw [b.F9];exact ⟨v,rfl,a⟩
theorem au.wg{vs:List V}{d e:D}(h:au Z H vs [d,e]):∃v u,vs= [v,u]∧Dv Z H v d∧Dv Z H u e:=by
 obtain ⟨v,us,rfl,a,b⟩:=h.xn;obtain ⟨u,rfl,c⟩:=b.ofOne;exact ⟨v,u,rfl,a,c⟩
mutual
theorem Dv.mono(s:aO H H'):∀{v:V}{d:D},Dv Z H v d→Dv Z H' v d
 |_,_, .aT=> .aT
 |_,_, .bl b=> .bl b
 |_,_, .int i=> .int i
 |_,_, .str x h=> .str x h
 |_,_, .lst h a=> .lst (s _ _ h) (au.mono s a)
 |_,_, .tup h a=> .tup (s _ _ h) (au.mono s a)
 |_,_, .obj a=> .obj a
 |_,_, .rng h=> .rng (s _ _ h)
 |_,_, .e9 h z=> .e9 (h.mono s) z
 |_,_, .iO h r g a b=> .iO (s _ _ h) (Dv.mono s r) g a b
 |_,_, .set h=> .set (s _ _ h)
 |_,_, .x h k=> .x (s _ _ h) (k.mono s)
theorem au.mono(s:aO H H'):∀{vs:List V}{ds:List D},au Z H vs ds→au Z H' vs ds
 |_,_, .nil=> .nil
 |_,_, .cons a as=> .cons (Dv.mono s a) (au.mono s as)
end
theorem au.length:∀{vs:List V}{ds:List D},au Z H vs ds→vs.length=ds.length
 |_,_, .nil=>rfl
 |_,_, .cons _ as=>congrArg (·+1) as.length
theorem au.get:∀{vs:List V}{ds:List D}{i:Nat}{d:D},au Z H vs ds→ds[i]? =some d→∃v,vs[i]? =some v∧Dv Z H v d
 |_,_,_,_, .nil,e=>by simp at e
 |_,_,0,_, .cons a as,e=>by simp at e;subst e;exact ⟨_,rfl,a⟩
 |_,_,i+1,d, .cons a as,e=>by
  obtain ⟨v,h1,h2⟩:=au.get (i:=i) (d:=d) as (by simpa using e)
  exact ⟨v,by simpa using h1,h2⟩
theorem au.uc:∀{vs:List V}{ds:List D}{i:Nat}{v:V},au Z H vs ds→vs[i]? =some v→∃d,ds[i]? =some d∧Dv Z H v d
 |_,_,_,_, .nil,e=>by simp at e
 |_,_,0,_, .cons a as,e=>by simp at e;subst e;exact ⟨_,rfl,a⟩
 |_,_,i+1,d, .cons a as,e=>by
  obtain ⟨v,h1,h2⟩:=au.uc (i:=i) (v:=d) as (by simpa using e)
  exact ⟨v,by simpa using h1,h2⟩
theorem au.append:∀{vs us:List V}{ds es:List D},au Z H vs ds→au Z H us es→au Z H (vs++us) (ds++es)
 |_,_,_,_, .nil,b=>b
 |_,_,_,_, .cons a as,b=> .cons a (as.append b)
theorem au.take:∀{vs:List V}{ds:List D}(n:Nat),au Z H vs ds→au Z H (vs.take n) (ds.take n)
 |_,_,0,_=>by simpa using au.nil
 |_,_,n+1, .nil=>by simpa using au.nil
 |_,_,n+1, .cons a as=>by simpa using au.cons a (as.take n)
theorem au.drop:∀{vs:List V}{ds:List D}(n:Nat),au Z H vs ds→au Z H (vs.drop n) (ds.drop n)
 |_,_,0,h=>h
 |_,_,n+1, .nil=>by simpa using au.nil
 |_,_,n+1, .cons a as=>by simpa using as.drop n
theorem au.set{v:V}{d:D}(h:Dv Z H v d):∀{vs:List V}{ds:List D}(n:Nat),au Z H vs ds→au Z H (vs.set n v) (ds.set n d)
 |_,_,_, .nil=> .nil
 |_,_,0, .cons a as=> .cons h as
 |_,_,n+1, .cons a as=> .cons a (au.set h n as)
theorem au.rev:∀{vs:List V}{ds:List D},au Z H vs ds→au Z H vs.reverse ds.reverse
 |_,_, .nil=> .nil
 |_,_, .cons a as=>by
  rw [List.reverse_cons,List.reverse_cons];exact as.rev.append (.cons a .nil)
theorem au.ints:∀(ns:List Int),au Z H (ns.map V.int) (ns.map D.int)
 | []=> .nil
 |n::ns=> .cons (.int n) (au.ints ns)
theorem au.snoc{vs:List V}{ds:List D}{v:V}{d:D}(a:au Z H vs ds)(b:Dv Z H v d):au Z H (vs++ [v]) (ds++ [d]):=a.append (.cons b .nil)
structure Ext (G H G' H':Hp):Prop where
 gg:aO G G'
 sub:aO G' H'
 hh:aO H H'
 off:∀b,H b≠none→G b=none→G' b=none
theorem Ext.refl(s:aO G H):Ext G H G H:=⟨.refl _,s, .refl _,λ_ _ h=>h⟩
theorem Ext.trans{G1 H1 G2 H2:Hp}(a:Ext G H G1 H1)(b:Ext G1 H1 G2 H2):Ext G H G2 H2:=
 ⟨a.gg.trans b.gg,b.sub,a.hh.trans b.hh,λx h g=>b.off x (λz=>by
  cases e:H x with
  |none=>exact h e
  |some o=>rw [a.hh x o e] at z;cases z) (a.off x h g)⟩
theorem Ext.new{p:Addr}{o:HO}(s:aO G H)(h:H p=none):Ext G H (upd G p o) (upd H p o):=by
 have hg:G p=none:=s.free h;refine ⟨aK hg o,λb u e=>?_,aK h o,λb hb hg=>?_⟩
 ·by_cases z:b=p
  ·subst z;rw [av] at e ⊢;exact e
  ·rw [ax z] at e ⊢;exact s b u e
 ·have:b≠p:=λz=>hb (by rw [z];exact h)
  rw [ax this];exact hg
end
abbrev DN:=List (Option D)
structure b7 (Z:DC) (G:Hp) (σ:St) (ρ:DN):Prop where
 len:ρ.length=σ.length
 at_:∀(i:Nat)(d:D),ρ[i]? =some (some d)→∃v,σ[i]? =some (some v)∧Dv Z G v d
section
variable {Z:DC} {G G' H H':Hp} {σ:St} {ρ:DN}
theorem b7.mono(e:b7 Z G σ ρ)(s:aO G G'):b7 Z G' σ ρ:=⟨e.len,λi d h=>let ⟨v,a,b⟩:=e.at_ i d h;⟨v,a,b.mono s⟩⟩
theorem b7.set{i:Nat}{v:V}{d:D}(e:b7 Z G σ ρ)(h:Dv Z G v d):b7 Z G (σ.set i (some v)) (ρ.set i (some d)):=by
 refine ⟨by rw [eM,eM];exact e.len,λj c hj=>?_⟩
 by_cases z:i=j
 ·subst z
  by_cases hi:i<ρ.length
  ·rw [gO hi] at hj
   cases hj;exact ⟨v,by rw [gO (by rw [←e.len];exact hi)],h⟩
  ·rw [uZ (gQ hi)] at hj
   rw [h8 (gQ hi)] at hj;cases hj
 ·rw [gP z] at hj ⊢
  exact e.at_ j c hj
end
abbrev aQ:=DN→(D→Prop)→Prop
abbrev b6:=DN→(Bool→Prop)→Prop
abbrev fu:=DN→(List D→Prop)→Prop
abbrev dM:=D→D→(D→Prop)→Prop
abbrev dB:=D→DN→(DN→Prop)→Prop
abbrev gT:=DN→(List D→Prop)→Prop
def cJ(Z:DC)(t:aQ):TE:=λσ H Q=>∃(G:Hp)(ρ:DN)(P:D→Prop),aO G H∧b7 Z G σ ρ∧t ρ P∧∀d,P d→∀v G' H',Ext G H G' H'→Dv Z G' v d→Q v H'
def liftT(Z:DC)(t:b6):TT:=λσ H Q=>∃(G:Hp)(ρ:DN)(P:Bool→Prop),aO G H∧b7 Z G σ ρ∧t ρ P∧∀b,P b→∀G' H',Ext G H G' H'→Q b H'
def vX(Z:DC)(t:fu):TA:=λσ H Q=>∃(G:Hp)(ρ:DN)(P:List D→Prop),aO G H∧b7 Z G σ ρ∧t ρ P∧∀ds,P ds→∀vs G' H',Ext G H G' H'→au Z G' vs ds→Q vs H'
def bh(Z:DC)(r:dM):R2:=λx y H Q=>∃(G:Hp)(a b:D)(P:D→Prop),aO G H∧Dv Z G x a∧Dv Z G y b∧r a b P∧∀d,P d→∀v G' H',Ext G H G' H'→Dv Z G' v d→Q v H'
def kL(Z:DC)(r:List D→(D→Prop)→Prop):List V→Hp→VK→Prop:=λvs H Q=>∃(G:Hp)(ds:List D)(P:D→Prop),aO G H∧au Z G vs ds∧r ds P∧∀d,P d→∀v G' H',Ext G H G' H'→Dv Z G' v d→Q v H'
abbrev cp:=List D→(D→Prop)→Prop
def aU(Z:DC)(sd:cp):Sp:=λvs H Q _=>kL Z sd vs H Q
def DE(Z:DC)(X:Cx)(e:Expr)(t:aQ):Prop:=PE X e (cJ Z t)
def DT(Z:DC)(X:Cx)(e:Expr)(t:b6):Prop:=PT X e (liftT Z t)
def DA(Z:DC)(X:Cx)(es:List Expr)(t:fu):Prop:=PA X es (vX Z t)
theorem PE.imp{X:Cx}{e:Expr}{t t':TE}(h:PE X e t)(f:∀σ H Q,t' σ H Q→t σ H Q):PE X e t':=λpins s σ H Q I q=>h pins s σ H Q I (f _ _ _ q)
theorem PT.imp{X:Cx}{e:Expr}{t t':TT}(h:PT X e t)(f:∀σ H Q,t' σ H Q→t σ H Q):PT X e t':=λpins s σ H Q I q=>h pins s σ H Q I (f _ _ _ q)
theorem PW.imp{X:Cx}{e:Expr}{t t':TT}(h:PW X e t)(f:∀σ H Q,t' σ H Q→t σ H Q):PW X e t':=λwh pins s σ H Q I q=>h wh pins s σ H Q I (f _ _ _ q)
theorem PA.imp{X:Cx}{es:List Expr}{t t':TA}(h:PA X es t)(f:∀σ H Q,t' σ H Q→t σ H Q):PA X es t':=λpos pins s σ H Q I q=>h pos pins s σ H Q I (f _ _ _ q)
theorem OpR.imp{X:Cx}{f:Value→Value→Sem Value}{r r':R2}(h:OpR X f r)(g:∀x y H Q,r' x y H Q→r x y H Q):OpR X f r':=λpins s σ H x y v u Q I a b q=>h pins s σ H x y v u Q I a b (g _ _ _ _ q)
theorem dJ.imp{X:Cx}{f:Value}{r r':List V→Hp→VK→Prop}(h:dJ X f r)(g:∀xs H Q,r' xs H Q→r xs H Q):dJ X f r':=λpins s σ H xs us Q I a q=>h pins s σ H xs us Q I a (g _ _ _ q)
def zr(i:Nat):aQ:=λρ P=>∃d,ρ[i]? =some (some d)∧P d
def dC(d:D):aQ:=λ_ P=>P d
section
variable {Z:DC} {X:Cx}
theorem aa(i:Nat){x:Str}{pos:Pos}(hN:X.N[i]? =some x:=by rfl)(hv:iS X.env.scope x:=by first|exact Or.inl rfl|exact Or.inr (Or.inl rfl) |exact Or.inr (Or.inr rfl))(hd:(x==("__debug__":Str))=false:=by decide)
  (cI:(x==("__classdict__":Str))=false:=by decide):DE Z X (.Name x pos) (zr i):=
 (sY hN hv hd cI).imp λσ H Q ⟨G,ρ,P,s,e,⟨d,hd,p⟩,q⟩=>let ⟨v,hv,dv⟩:=e.at_ i d hd;⟨v,hv,q d p v G H (.refl s) dv⟩
theorem aq{i j pos}:DE Z X (.Constant (.int i) j pos) (dC (.int i)):=CI.imp λσ H Q ⟨G,ρ,P,s,e,p,q⟩=>q _ p _ G H (.refl s) (.int i)
theorem eB{b j pos}:DE Z X (.Constant (.bool b) j pos) (dC (.bl b)):=Gk.imp λσ H Q ⟨G,ρ,P,s,e,p,q⟩=>q _ p _ G H (.refl s) (.bl b)
theorem bL{j pos}:DE Z X (.Constant .none j pos) (dC .aT):=CJ.imp λσ H Q ⟨G,ρ,P,s,e,p,q⟩=>q _ p _ G H (.refl s) .aT
theorem lC{x j pos}(h:PyData.strOk x=true:=by decide+kernel):DE Z X (.Constant (.str x) j pos) (dC (.str x)):=CM.imp λσ H Q ⟨G,ρ,P,s,e,p,q⟩=>q _ p _ G H (.refl s) (.str x h)
theorem xW{x:Str}{i:Int}{pos:Pos}(hg:Gl X x)(hm:∃tk,X.mg x=some (.int i tk))(hd:(x==("__debug__":Str))=false:=by decide):DE Z X (.Name x pos) (dC (.int i)):=by
 obtain ⟨tk,hm⟩:=hm;exact (AF hg hm (v:= .int i) ⟨tk,rfl⟩ hd).imp λσ H Q ⟨G,ρ,P,s,e,p,q⟩=>q _ p _ G H (.refl s) (.int i)
def xU(r:dM)(ta tb:aQ):aQ:=λρ P=>ta ρ λa=>tb ρ λb=>r a b P
variable {a b c:Expr} {ta tb tc:aQ} {pos:Pos}
theorem sL{r:dM}:∀σ H Q,cJ Z (xU r ta tb) σ H Q→Bo (bh Z r) (cJ Z ta) (cJ Z tb) σ H Q:=by
 rintro σ H Q ⟨G,ρ,P,s,e,h,q⟩;refine ⟨G,ρ,_,s,e,h,λa ha v G1 H1 x1 dv=>?_⟩;refine ⟨G1,ρ,_,x1.sub,e.mono x1.gg,ha,λb hb u G2 H2 x2 du=>?_⟩;exact ⟨G2,a,b,P,x2.sub,dv.mono x2.gg,du,hb,λd hd v' G' H' x3 jz=>q d hd v' G' H' ((x1.trans x2).trans x3) jz⟩
theorem aw{op:Operator}{r:dM}(ho:OpR X (binaryOp op) (bh Z r))(ha:DE Z X a ta)(hb:DE Z X b tb):DE Z X (.BinOp a op b pos) (xU r ta tb):=(sX ho ha hb).imp sL
theorem sm{op:CmpOp}{r:dM}(ho:OpR X (compareOp op) (bh Z r))(ha:DE Z X a ta)(hb:DE Z X b tb)(hm:behindInMarks op b=false):DE Z X (.Compare a [op] [b] pos) (xU r ta tb):=(AD ho ha hb hm).imp sL
def sj(t:aQ):b6:=λρ P=>t ρ λd=>∃k,d= .bl k∧P k
theorem rH{t:aQ}:∀σ H Q,liftT Z (sj t) σ H Q→wK (cJ Z t) σ H Q:=by
 rintro σ H Q ⟨G,ρ,P,s,e,h,q⟩;refine ⟨G,ρ,_,s,e,h,?_⟩;rintro _ ⟨k,rfl,p⟩ v G1 H1 x1 dv;cases dv;exact ⟨k,rfl,q k p G1 H1 x1⟩
theorem aD{op:CmpOp}{r:dM}(ho:OpR X (compareOp op) (bh Z r))(ha:DE Z X a ta)(hb:DE Z X b tb)(hm:behindInMarks op b=false):DT Z X (.Compare a [op] [b] pos) (sj (xU r ta tb)):=
 (AS ho ha hb hm).imp λσ H Q h=>by
  obtain h:=rH σ H Q h;exact sL σ H _ h
def sh(r r':dM)(ta tb tc:aQ):aQ:=λρ P=>ta ρ λx=>tb ρ λy=>r x y λz=>∃k,z= .bl k∧(if k=true then tc ρ λw'=>r' y w' P else P (.bl false))
theorem pZ{r r':dM}:∀σ H Q,cJ Z (sh r r' ta tb tc) σ H Q→tH (bh Z r) (bh Z r') (cJ Z ta) (cJ Z tb) (cJ Z tc) σ H Q:=by
 rintro σ H Q ⟨G,ρ,P,s,e,h,q⟩;refine ⟨G,ρ,_,s,e,h,λa ha v G1 H1 x1 dv=>?_⟩;refine ⟨G1,ρ,_,x1.sub,e.mono x1.gg,ha,λb hb u G2 H2 x2 du=>?_⟩;refine ⟨G2,a,b,_,x2.sub,dv.mono x2.gg,du,hb,?_⟩;rintro _ ⟨k,rfl,hk⟩ v' G3 H3 x3 jz;cases jz;refine ⟨k,rfl,?_⟩;have x:=(x1.trans x2).trans x3;cases k with
 |false=>exact bX (q _ hk _ G3 H3 x (.bl false))
 |true=>
  refine cq ⟨G3,ρ,_,x3.sub,e.mono x.gg,hk,λc hc w' G4 H4 x4 dw=>?_⟩;exact ⟨G4,b,c,P,x4.sub,(du.mono x3.gg).mono x4.gg,dw,hc,λd hd Sf G' H' x5 d5=>q d hd Sf G' H' ((x.trans x4).trans x5) d5⟩
theorem xV{op kT:CmpOp}{r r':dM}(ho:OpR X (compareOp op) (bh Z r))(ic:OpR X (compareOp kT) (bh Z r'))(ha:DE Z X a ta)(hb:DE Z X b tb)(hc:DE Z X c tc)
  (hm:lastMarks [op,kT] [b,c]=false:=by with_unfolding_all rfl):DE Z X (.Compare a [op,kT] [b,c] pos) (sh r r' ta tb tc):=(yA ho ic ha hb hc hm).imp pZ
theorem xZ{op kT:CmpOp}{r r':dM}(ho:OpR X (compareOp op) (bh Z r))(ic:OpR X (compareOp kT) (bh Z r'))(ha:DE Z X a ta)(hb:DE Z X b tb)(hc:DE Z X c tc)
  (hm:lastMarks [op,kT] [b,c]=false:=by with_unfolding_all rfl):DT Z X (.Compare a [op,kT] [b,c] pos) (sj (sh r r' ta tb tc)):=
 (yH ho ic ha hb hc hm).imp λσ H Q h=>by
  obtain h:=rH σ H Q h;exact pZ σ H _ h
def rQ:D→Bool
 | .aT=>false
 | .bl b=>b
 | .int i=>i !=0
 | .str x=>x.length !=0
 | .lst l=>!l.isEmpty
 | .tup l=>!l.isEmpty
 | .e9 l=>!l.isEmpty
 | .rng lo hi=>decide (lo<hi)
 | .obj _=>true
 | .iO _=>true
 | .set _ l=>!l.isEmpty
 | .x _=>true
def JT:D→Bool
 | .bl _=>true
 | .int _=>true
 | .lst _=>true
 | .tup _=>true
 | .aT=>true
 |_=>false
def Ii(t:aQ):b6:=λρ P=>t ρ λd=>JT d=true∧P (rQ d)
theorem nJ{G:Hp}{vs:List V}{ds:List D}(h:au Z G vs ds):vs.isEmpty=ds.isEmpty:=by cases h<;>rfl
theorem fe(ha:DE Z X a ta)(he:∀whole,isTrue a X.env whole=(do let v ←whole;standAt a.pos;holding [v] (truthy v)):=by intro _;rfl):DT Z X a (Ii ta):=by
 refine (yI ha he).imp ?_;rintro σ H Q ⟨G,ρ,P,s,e,h,q⟩;refine ⟨G,ρ,_,s,e,h,?_⟩;rintro d ⟨hd,p⟩ v G1 H1 x1 dv;refine ⟨rQ d,?_,q _ p G1 H1 x1⟩;cases dv with
 |aT=>rfl
 |bl b=>rfl
 |int i=>rfl
 |lst h a=>exact .inl ⟨_,bE.of (x1.sub _ _ h),by rw [nJ a];rfl⟩
 |tup h a=>exact .inr (.inl ⟨_,ed.of (x1.sub _ _ h),by rw [nJ a];rfl⟩)
 |_=>cases hd
def HR(t u:b6):b6:=λρ P=>t ρ λc=>if c=true then u ρ P else P false
def NI(t u:b6):b6:=λρ P=>t ρ λc=>if c=true then P true else u ρ P
def Ia(t:b6):b6:=λρ P=>t ρ λc=>P (!c)
variable {tA tG:b6} {rest:List Expr}
def DW(Z:DC)(X:Cx)(e:Expr)(t:b6):Prop:=PW X e (liftT Z t)
theorem DW.dt{e:Expr}{t:b6}(h:DW Z X e t):DT Z X e t:=PW.pt h
theorem gx(ha:DT Z X a tA):DW Z X (.BoolOp .And [a] pos) tA:=AX ha
theorem sq(ha:DT Z X a tA):DW Z X (.BoolOp .Or [a] pos) tA:=CV ha
theorem iW(ha:DT Z X a tA)(hb:DW Z X (.BoolOp .And (b::rest) pos) tG):DW Z X (.BoolOp .And (a::b::rest) pos) (HR tA tG):=by
 refine (CU ha hb).imp ?_;rintro σ H Q ⟨G,ρ,P,s,e,h,q⟩;refine ⟨G,ρ,_,s,e,h,λc hc G1 H1 x1=>?_⟩;cases c with
 |true=>exact cq ⟨G1,ρ,P,x1.sub,e.mono x1.gg,hc,λb hb G2 H2 x2=>q b hb G2 H2 (x1.trans x2)⟩
 |false=>exact bX (q _ hc G1 H1 x1)
theorem vv(ha:DT Z X a tA)(hb:DW Z X (.BoolOp .Or (b::rest) pos) tG):DW Z X (.BoolOp .Or (a::b::rest) pos) (NI tA tG):=by
 refine (Gp ha hb).imp ?_;rintro σ H Q ⟨G,ρ,P,s,e,h,q⟩;refine ⟨G,ρ,_,s,e,h,λc hc G1 H1 x1=>?_⟩;cases c with
 |false=>exact bX ⟨G1,ρ,P,x1.sub,e.mono x1.gg,hc,λb hb G2 H2 x2=>q b hb G2 H2 (x1.trans x2)⟩
 |true=>exact cq (q _ hc G1 H1 x1)
theorem iV(ha:DT Z X a tA):DT Z X (.UnaryOp .Not a pos) (Ia tA):=by
 refine (CT ha).imp ?_;rintro σ H Q ⟨G,ρ,P,s,e,h,q⟩;exact ⟨G,ρ,_,s,e,h,λc hc G1 H1 x1=>q _ hc G1 H1 x1⟩
def EY(ta tb:aQ):aQ:=λρ P=>ta ρ λx=>∃c,x= .bl c∧if c=true then tb ρ P else P (.bl false)
def E8(ta:aQ):aQ:=λρ P=>ta ρ λx=>∃c,x= .bl c∧P (.bl (!c))
theorem BG{op}(h:DE Z X a ta):DE Z X (.BoolOp op [a] pos) ta:=CL h
theorem w4(ha:DE Z X a ta)(hb:DE Z X (.BoolOp .And (b::rest) pos) tb):DE Z X (.BoolOp .And (a::b::rest) pos) (EY ta tb):=by
 refine (CF ha hb).imp ?_;rintro σ H Q ⟨G,ρ,P,s,e,h,q⟩;refine ⟨G,ρ,_,s,e,h,?_⟩;rintro _ ⟨c,rfl,hc⟩ v G1 H1 x1 dv;cases dv;refine ⟨c,rfl,?_⟩;cases c with
 |true=>exact cq ⟨G1,ρ,P,x1.sub,e.mono x1.gg,hc,λb hb v G2 H2 x2 d2=>q b hb v G2 H2 (x1.trans x2) d2⟩
 |false=>exact bX (q _ hc _ G1 H1 x1 (.bl false))
theorem BF(ha:DE Z X a ta):DE Z X (.UnaryOp .Not a pos) (E8 ta):=by
 refine (CK ha).imp ?_;rintro σ H Q ⟨G,ρ,P,s,e,h,q⟩;refine ⟨G,ρ,_,s,e,h,?_⟩;rintro _ ⟨c,rfl,hc⟩ v G1 H1 x1 dv;cases dv;exact ⟨c,rfl,q _ hc _ G1 H1 x1 (.bl _)⟩
def D1:fu:=λ_ P=>P []
def E1(ta:aQ)(t:fu):fu:=λρ P=>ta ρ λx=>t ρ λxs=>P (x::xs)
variable {es:List Expr} {t:fu} {e:Expr}
theorem af:DA Z X [] D1:=fj.imp λσ H Q ⟨G,ρ,P,s,e,p,q⟩=>q _ p _ G H (.refl s) .nil
theorem ab(ha:DE Z X e ta)(hr:DA Z X es t)(hs:starEach (e::es) X.env=(false,eval e X.env)::starEach es X.env:=by rfl):DA Z X (e::es) (E1 ta t):=by
 refine (cC ha hr hs).imp ?_;rintro σ H Q ⟨G,ρ,P,s,e,h,q⟩;refine ⟨G,ρ,_,s,e,h,λa ha v G1 H1 x1 dv=>?_⟩;exact ⟨G1,ρ,_,x1.sub,e.mono x1.gg,ha,λds hd vs G2 H2 x2 aV=>q _ hd _ G2 H2 (x1.trans x2) (.cons (dv.mono x2.gg) aV)⟩
def Ij(t:fu):aQ:=λρ P=>t ρ λxs=>xs.length≤sizeLine∧P (.tup xs)
def HZ(t:fu):aQ:=λρ P=>t ρ λxs=>xs.length≤sizeLine∧P (.lst xs)
theorem fb{x1}(h:DA Z X es t):DE Z X (.Tuple es x1 pos) (Ij t):=by
 refine (CN h).imp ?_;rintro σ H Q ⟨G,ρ,P,s,e,h,q⟩;refine ⟨G,ρ,_,s,e,h,?_⟩;rintro ds ⟨hl,hp⟩ vs G1 H1 x1 aV;exact ⟨by rw [aV.length];exact hl,λp jn=>q _ hp _ _ _ (x1.trans (.new x1.sub jn)) (.tup av (aV.mono (aK (x1.sub.free jn) _)))⟩
theorem bF(h:DA Z X es t):DE Z X (.List es pos) (HZ t):=by
 refine (oR h).imp ?_;rintro σ H Q ⟨G,ρ,P,s,e,h,q⟩;refine ⟨G,ρ,_,s,e,h,?_⟩;rintro ds ⟨hl,hp⟩ vs G1 H1 x1 aV;exact ⟨by rw [aV.length];exact hl,λp jn=>q _ hp _ _ _ (x1.trans (.new x1.sub jn)) (.lst av (aV.mono (aK (x1.sub.free jn) _)))⟩
def pz(r:List D→(D→Prop)→Prop)(t:fu):aQ:=λρ P=>t ρ λds=>r ds P
theorem mS{r:List D→(D→Prop)→Prop}:∀σ H Q,cJ Z (pz r t) σ H Q→vX Z t σ H λvs H1=>kL Z r vs H1 Q:=by
 rintro σ H Q ⟨G,ρ,P,s,e,h,q⟩;exact ⟨G,ρ,_,s,e,h,λds hd vs G1 H1 x1 aV=>⟨G1,ds,P,x1.sub,aV,hd,λd hp v G2 H2 x2 dv=>q d hp v G2 H2 (x1.trans x2) dv⟩⟩
theorem zu{sd:cp}{k:Nat}{f:Addr}{fd:FuncData}{ps:List Str}{x:Str}{p:Pos}(F:FnOk X.prog X.w X.K X.mg X.base bQ k f fd ps (aU Z sd))(hr:bI k X.A)(hg:Gl X x)(hm:X.mg x=some (.ref f))(hk:PySem.W.keepIn X.K (.ref f)=true)(hb:Binds X.K fd ps [])
  (ha:DA Z X (e::es) t) (gB:(x==("__debug__":Str))=false:=by decide) (he:starEach (e::es) X.env=(false,eval e X.env)::starEach es X.env:=by rfl) (dG:(backTo pos (starEach es X.env)).any (·.1)=false:=by rfl):
  DE Z X (.Call (.Name x p) (e::es) [] pos) (pz sd t):=
 (uA F hr hg hm hk hb .nil sU ha gB he dG).imp λσ H Q h=>by
  have h:=mS σ H Q h;obtain ⟨G,ρ,P,s,e,h,q⟩:=h;exact ⟨G,ρ,P,s,e,h,λds hd vs G1 H1 x1 aV=>by show aU Z sd (vs++ []) H1 Q E0;rw [mz];exact q ds hd vs G1 H1 x1 aV⟩
theorem aH{id:String}{x:Str}{p:Pos}{r:List D→(D→Prop)→Prop}(hc:dJ X (.builtin id) (kL Z r))(hg:Gl X x)(hm:X.mg x=none)(hv:bootBuiltins x=some (.builtin id))(ha:DA Z X (e::es) t)(hn:x≠"__name__":=by decide)(gB:(x==("__debug__":Str))=false:=by decide)
  (he:starEach (e::es) X.env=(false,eval e X.env)::starEach es X.env:=by rfl) (dG:(backTo pos (starEach es X.env)).any (·.1)=false:=by rfl):
  DE Z X (.Call (.Name x p) (e::es) [] pos) (pz r t):=(m7 hc hg hm hv ha hn gB he dG).imp mS
theorem iU{T:String}{x:Str}{p:Pos}{r:List D→(D→Prop)→Prop}(hc:dJ X (.type T) (kL Z r))(hg:Gl X x)(hm:X.mg x=none)(hv:bootBuiltins x=some (.type T))(ha:DA Z X (e::es) t)(hn:x≠"__name__":=by decide)(gB:(x==("__debug__":Str))=false:=by decide)
  (he:starEach (e::es) X.env=(false,eval e X.env)::starEach es X.env:=by rfl) (dG:(backTo pos (starEach es X.env)).any (·.1)=false:=by rfl):
  DE Z X (.Call (.Name x p) (e::es) [] pos) (pz r t):=(ql hc hg hm hv ha hn gB he dG).imp mS
end
end L2
namespace L2
open PySem PySem.Spec PyProof.Rows
section
variable {Z:DC} {X:Cx}
def DV:dM:=λx y P=>match x,y with
 | .int i, .int j=>P (.int (i+j))
 | .lst a, .lst b=>a.length+b.length≤sizeLine∧P (.lst (a++b))
 | .tup a, .tup b=>a≠ []∧a.length+b.length≤sizeLine∧b≠ []∧P (.tup (a++b))
 |_,_=>False
def dI(c:Int→Int→Prop)(g:Int→Int→Int):dM:=λx y P=>match x,y with
 | .int i, .int j=>c i j∧P (.int (g i j))
 |_,_=>False
def E4(g:Int→Int→Int):dM:=λx y P=>match x,y with
 | .int i, .int j=>P (.int (g i j))
 |_,_=>False
def Ih:dM:=E4 λi j=>i-j
def D0:dM:=λx y P=>match x,y with
 | .int i, .int j=>wR i j∧P (.int (i*j))
 | .lst a, .int k=> -(2^63)≤k∧k<2^63∧a.length*k.toNat≤sizeLine∧P (.lst (List.replicate k.toNat a).flatten)
 |_,_=>False
def HS:dM:=dI Dm λi j=>i / j
def H0:dM:=dI (λ_ j=>0<j) λi j=>i%j
def Ic:dM:=dI wU λi j=>i^j.toNat
theorem oO{f:Value→Value→Sem Value}{c:Int→Int→Prop}{g:Int→Int→Int}(h:OpR X f (rI c λi j=> .int (g i j))):OpR X f (bh Z (dI c g)):=by
 refine h.imp ?_;rintro x y H Q ⟨G,a,b,P,s,da,db,hr,q⟩;unfold dI at hr
 split at hr
 ·exact ⟨_,_,da.ofInt,db.ofInt,hr.1,q _ hr.2 _ G H (.refl s) (.int _)⟩
 ·exact hr.elim
theorem Cj{f:Value→Value→Sem Value}{g:Int→Int→Int}(h:OpR X f (tu λi j=> .int (g i j))):OpR X f (bh Z (E4 g)):=by
 refine h.imp ?_;rintro x y H Q ⟨G,a,b,P,s,da,db,hr,q⟩;unfold E4 at hr
 split at hr
 ·exact ⟨_,_,da.ofInt,db.ofInt,q _ hr _ G H (.refl s) (.int _)⟩
 ·exact hr.elim
theorem oQ:OpR X (binaryOp .Sub) (bh Z Ih):=Cj CD
theorem fi:OpR X (binaryOp .FloorDiv) (bh Z HS):=oO Az
theorem bz:OpR X (binaryOp .Mod) (bh Z H0):=oO Cy
theorem sP:OpR X (binaryOp .Pow) (bh Z Ic):=oO CB
theorem bx(e:X.K=Z.K:=by rfl):OpR X (binaryOp .Add) (bh Z DV):=by
 refine (Cu.or (sS.or (Ay))).imp ?_;rintro x y H Q ⟨G,a,b,P,s,da,db,hr,q⟩;unfold DV at hr
 split at hr
 ·exact .inl ⟨_,_,da.ofInt,db.ofInt,q _ hr _ G H (.refl s) (.int _)⟩
 ·obtain ⟨a1,GN,rfl,h1,e1⟩:=da.ik
  obtain ⟨a2,Mn,rfl,h2,e2⟩:=db.ik;obtain ⟨hz,hp⟩:=hr;refine .inr (.inl ⟨_,_,_,_,rfl,rfl,s _ _ h1,s _ _ h2,by rw [e1.length,e2.length];exact hz,λp hn=>?_⟩)
  exact q _ hp _ _ _ (.new s hn) (.lst av ((e1.append e2).mono (aK (s.free hn) _)))
 ·obtain ⟨a1,GN,rfl,h1,e1⟩:=da.kR
  obtain ⟨a2,Mn,rfl,h2,e2⟩:=db.kR;obtain ⟨h0,hz,Ob,hp⟩:=hr;refine .inr (.inr ⟨_,_,_,_,rfl,rfl,ed.of (s _ _ h1),ed.of (s _ _ h2),?_,by rw [e1.length,e2.length];exact hz,?_⟩)
  ·rintro rfl;cases e1;exact h0 rfl
  ·refine ⟨?_,λ_ p hn=>q _ hp _ _ _ (.new s hn) (.tup av ((e1.append e2).mono (aK (s.free hn) _)))⟩
   rintro rfl;cases e2;exact (Ob rfl).elim
 ·exact hr.elim
theorem au.rep{G:Hp}{vs:List V}{ds:List D}(h:au Z G vs ds):∀k:Nat,au Z G (List.replicate k vs).flatten (List.replicate k ds).flatten
 |0=> .nil
 |k+1=>by rw [n5,n5,qz,qz];exact h.append (au.rep h k)
theorem f7:OpR X (binaryOp .Mult) (bh Z D0):=by
 refine (Cz.or xp).imp ?_;rintro x y H Q ⟨G,a,b,P,s,da,db,hr,q⟩;unfold D0 at hr
 split at hr
 ·exact .inl ⟨_,_,da.ofInt,db.ofInt,hr.1,q _ hr.2 _ G H (.refl s) (.int _)⟩
 ·obtain ⟨a1,GN,rfl,h1,e1⟩:=da.ik
  obtain ⟨h0,h9,hz,hp⟩:=hr;refine .inr ⟨_,_,_,rfl,db.ofInt,s _ _ h1,h0,h9,by rw [e1.length];exact hz,λp hn=>?_⟩
  exact q _ hp _ _ _ (.new s hn) (.lst av ((e1.rep _).mono (aK (s.free hn) _)))
 ·exact hr.elim
mutual
def D.py:D→Option PyData
 | .aT=>some .none
 | .bl b=>some (.bool b)
 | .int i=>some (.int i)
 | .str x=>some (.str x)
 | .lst l=>(fL l).map PyData.list
 | .tup l=>(fL l).map PyData.tuple
 | .e9 _=>none
 | .rng _ _=>none
 | .obj _=>none
 | .iO _=>none
 | .set _ _=>none
 | .x _=>none
def fL:List D→Option (List PyData)
 | []=>some []
 |d::ds=>(D.py d).bind λa=>(fL ds).map λas=>a::as
end
mutual
theorem Dv.dp{K:PySem.W.Frag}{G:Hp}:∀{v:V}{d:D}{e:PyData},Dv Z G v d→d.py=some e→Dp K G v e
 |_,_,_, .aT,h=>by simp [D.py] at h;subst h;exact .aT
 |_,_,_, .bl b,h=>by simp [D.py] at h;subst h;exact .bl b
 |_,_,_, .int i,h=>by simp [D.py] at h;subst h;exact .int i
 |_,_,_, .str x k,h=>by simp [D.py] at h;subst h;exact .str x k
 |_,_,_, .lst a as,h=>by
  simp [D.py] at h;obtain ⟨l,h1,rfl⟩:=h;exact .lst (bE.of a) (au.dp as h1)
 |_,_,_, .tup a as,h=>by
  simp [D.py] at h;obtain ⟨l,h1,rfl⟩:=h;exact .tup (ed.of a) (au.dp as h1)
 |_,_,_, .e9 _ _,h=>by simp [D.py] at h
 |_,_,_, .rng _,h=>by simp [D.py] at h
 |_,_,_, .obj _,h=>by simp [D.py] at h
 |_,_,_, .iO _ _ _ _ _,h=>by simp [D.py] at h
 |_,_,_, .set _,h=>by simp [D.py] at h
 |_,_,_, .x _ _,h=>by simp [D.py] at h
theorem au.dp{K:PySem.W.Frag}{G:Hp}:∀{vs:List V}{ds:List D}{es:List PyData},au Z G vs ds→fL ds=some es→cQ K G vs es
 |_,_,_, .nil,h=>by simp [fL] at h;subst h;exact .nil
 |_,_,_, .cons (d:=d) (ds:=ds) a as,h=>by
  rw [fL] at h;cases h1:d.py with
  |none=>rw [h1] at h;cases h
  |some x=>
   rw [h1] at h;cases h2:fL ds with
   |none=>rw [h2] at h;cases h
   |some y=>rw [h2] at h;cases h;exact .cons (Dv.dp a h1) (au.dp as h2)
end
theorem ed.mono{K:PySem.W.Frag}{H H':Hp}{a:Addr}{xs:List V}(s:aO H H')(h:ed K H a xs):ed K H' a xs:=by
 rcases h with (h| ⟨o,h⟩) |h
 ·exact .inl (.inl (s _ _ h))
 ·exact .inl (.inr ⟨o,s _ _ h⟩)
 ·exact .inr h
mutual
theorem Dp.mono{K:PySem.W.Frag}{G H:Hp}(s:aO G H):∀{v:V}{d:PyData},Dp K G v d→Dp K H v d
 |_,_, .aT=> .aT
 |_,_, .bl b=> .bl b
 |_,_, .int i=> .int i
 |_,_, .str x h=> .str x h
 |_,_, .lst h a=> .lst (h.mono s) (cQ.mono s a)
 |_,_, .tup h a=> .tup (h.mono s) (cQ.mono s a)
theorem cQ.mono{K:PySem.W.Frag}{G H:Hp}(s:aO G H):∀{vs:List V}{ds:List PyData},cQ K G vs ds→cQ K H vs ds
 |_,_, .nil=> .nil
 |_,_, .cons a as=> .cons (Dp.mono s a) (cQ.mono s as)
end
def DY(neg:Bool):dM:=λx y P=>∃a b,x.py=some a∧y.py=some b∧a.depth≤64∧P (.bl (if neg then !PyData.eqv a b else PyData.eqv a b))
abbrev mF:dM:=DY false
abbrev pB:dM:=DY true
theorem eZ(hu:X.A.units+64<cLine):OpR X (compareOp .Eq) (bh Z mF):=by
 refine (Cv hu).imp ?_;rintro x y H Q ⟨G,a,b,P,s,da,db,⟨c,d,h1,h2,h3,hp⟩,q⟩;exact ⟨c,d,(da.dp h1).mono s,(db.dp h2).mono s,h3,q _ hp _ G H (.refl s) (.bl _)⟩
theorem ig(hu:X.A.units+64<cLine):OpR X (compareOp .NotEq) (bh Z pB):=by
 refine (CA hu).imp ?_;rintro x y H Q ⟨G,a,b,P,s,da,db,⟨c,d,h1,h2,h3,hp⟩,q⟩;exact ⟨c,d,(da.dp h1).mono s,(db.dp h2).mono s,h3,q _ hp _ G H (.refl s) (.bl _)⟩
theorem zf{i j:Int}{P:D→Prop}(h:P (.bl (decide (i=j)))):mF (.int i) (.int j) P:=⟨.int i, .int j,rfl,rfl,by simp [PyData.depth],by
 have:PyData.eqv (.int i) (.int j)=decide (i=j):=by
  rw [PyData.eqv]
  by_cases z:i=j<;>simp [z]
 simpa [this] using h⟩
theorem zi{i j:Int}{P:D→Prop}(h:P (.bl (!decide (i=j)))):pB (.int i) (.int j) P:=⟨.int i, .int j,rfl,rfl,by simp [PyData.depth],by
 have:PyData.eqv (.int i) (.int j)=decide (i=j):=by
  rw [PyData.eqv]
  by_cases z:i=j<;>simp [z]
 simpa [this] using h⟩
def tV(p:Int→Int→Bool):dM:=λx y P=>match x,y with
 | .int i, .int j=>P (.bl (p i j))
 |_,_=>False
theorem p0{f:Value→Value→Sem Value}{p:Int→Int→Bool}(h:OpR X f (tu λi j=> .bl (p i j))):OpR X f (bh Z (tV p)):=by
 refine h.imp ?_;rintro x y H Q ⟨G,a,b,P,s,da,db,hr,q⟩;unfold tV at hr
 split at hr
 ·exact ⟨_,_,da.ofInt,db.ofInt,q _ hr _ G H (.refl s) (.bl _)⟩
 ·exact hr.elim
end
end L2
namespace L2
open PySem PySem.Spec PyProof.Rows
section
variable {Z:DC} {X:Cx}
abbrev NH:dM:=tV λi j=>decide (i<j)
abbrev NG:dM:=tV λi j=>decide (i≤j)
abbrev NF:dM:=tV λi j=>decide (j<i)
theorem wc:OpR X (compareOp .Lt) (bh Z NH):=p0 Gg
theorem wb:OpR X (compareOp .LtE) (bh Z NG):=p0 Ge
theorem F8:OpR X (compareOp .Gt) (bh Z NF):=p0 Gd
def mO:D→Bool
 | .aT=>true
 |_=>false
def wX(neg:Bool):dM:=λx y P=>match y with
 | .aT=>P (.bl (if neg then !mO x else mO x))
 |_=>False
theorem rm{G:Hp}{v:V}{d:D}(h:Dv Z G v d):decide (v= .aT)=mO d:=by cases h<;>rfl
theorem kQ:OpR X (compareOp .Is) (bh Z (wX false)):=by
 refine Cw.imp ?_;rintro x y H Q ⟨G,a,b,P,s,da,db,hr,q⟩;cases db<;>first|exact hr.elim|skip
 exact ⟨rfl,by rw [rm da];exact q _ hr _ G H (.refl s) (.bl _)⟩
theorem j6:OpR X (compareOp .IsNot) (bh Z (wX true)):=by
 refine AA.imp ?_;rintro x y H Q ⟨G,a,b,P,s,da,db,hr,q⟩;cases db<;>first|exact hr.elim|skip
 exact ⟨rfl,by rw [rm da];exact q _ hr _ G H (.refl s) (.bl _)⟩
def bY:D→Bool
 | .aT=>true
 | .bl _=>true
 | .int _=>true
 | .str _=>true
 |_=>false
def fS:D→D→Bool
 | .aT, .aT=>true
 | .bl a, .bl b=>a==b
 | .bl a, .int b=>(if a then 1 else 0)==b
 | .int a, .bl b=>a==(if b then 1 else 0)
 | .int a, .int b=>a==b
 | .str a, .str b=>a==b
 |_,_=>false
def inD(x:D)(l:List D):Bool:=l.any λy=>fS y x
theorem lG{G:Hp}{v:V}{d:D}(h:Dv Z G v d):eY v=bY d:=by cases h<;>rfl
theorem g9{G:Hp}:∀{vs:List V}{ds:List D},au Z G vs ds→vs.all eY=ds.all bY
 |_,_, .nil=>rfl
 |_,_, .cons a as=>by rw [List.all_cons,List.all_cons,lG a,g9 as]
theorem sv{G:Hp}{v u:V}{d e:D}(h:Dv Z G v d)(k:Dv Z G u e):pK v u=fS d e:=by cases h<;>cases k<;>rfl
theorem vQ{G:Hp}{v:V}{d:D}(h:Dv Z G v d):∀{vs:List V}{ds:List D},au Z G vs ds→B8 v vs=inD d ds
 |_,_, .nil=>rfl
 |_,_, .cons a as=>by
  unfold B8 inD;rw [List.any_cons,List.any_cons,sv a h];exact congrArg _ (vQ h as)
def BB(neg:Bool):dM:=λx y P=>match y with
 | .lst l=>bY x=true∧l.all bY=true∧P (.bl (if neg then !inD x l else inD x l))
 | .tup l=>bY x=true∧l.all bY=true∧P (.bl (if neg then !inD x l else inD x l))
 |_=>False
theorem A0{neg:Bool}:∀x y H Q,bh Z (BB neg) x y H Q→Gs X.K neg x y H Q:=by
 rintro x y H Q ⟨G,a,b,P,s,da,db,hr,q⟩;cases db<;>first|exact hr.elim|skip
 ·rename_i p xs ds h e
  obtain ⟨h1,h2,hp⟩:=hr;refine ⟨p,xs,rfl, .inl (bE.of (s _ _ h)),by rw [lG da];exact h1,by rw [g9 e];exact h2,?_⟩
  rw [vQ da e];exact q _ hp _ G H (.refl s) (.bl _)
 ·rename_i p xs ds h e
  obtain ⟨h1,h2,hp⟩:=hr;refine ⟨p,xs,rfl, .inr (ed.of (s _ _ h)),by rw [lG da];exact h1,by rw [g9 e];exact h2,?_⟩
  rw [vQ da e];exact q _ hp _ G H (.refl s) (.bl _)
theorem qd:OpR X (compareOp .In) (bh Z (BB false)):=wo.imp A0
theorem mV:OpR X (compareOp .NotIn) (bh Z (BB true)):=qP.imp A0
def HY:dM:=λx y P=>match x,y with
 | .lst l, .int i=>∃d,cX l i=some d∧P d
 | .tup l, .int i=>∃d,cX l i=some d∧P d
 | .e9 l, .int i=>∃n,cX l i=some n∧P (.int n)
 |_,_=>False
theorem r6{G:Hp}{vs:List V}{ds:List D}{i:Int}{d:D}(h:au Z G vs ds)(e:cX ds i=some d):∃v,cX vs i=some v∧Dv Z G v d:=by
 unfold cX at e ⊢;rw [h.length];cases z:ee ds.length i with
 |none=>rw [z] at e;cases e
 |some j=>rw [z] at e;exact h.get e
theorem y3{α β:Type}(f:α→β)(l:List α)(i:Int):cX (l.map f) i=(cX l i).map f:=by
 unfold cX;rw [aW];cases ee l.length i with
 |none=>rfl
 |some j=>show (l.map f)[j]? =_;rw [cU];rfl
variable {a b c e:Expr} {ta tb tc te:aQ} {pos:Pos}
theorem aB(ha:DE Z X a ta)(hb:DE Z X b tb)(eK:X.K=Z.K:=by rfl)(hs:ju b:=by exact λ_ _=>rfl):DE Z X (.Subscript a b pos) (xU HY ta tb):=by
 refine (sW (lO.or Ca) ha hb hs).imp λσ H Q h=>?_;obtain ⟨G,ρ,P,s,e,h,q⟩:=sL σ H Q h;refine ⟨G,ρ,P,s,e,h,λd hd v G1 H1 x1 dv=>?_⟩;obtain ⟨G',az,P',s',e',h',q'⟩:=q d hd v G1 H1 x1 dv;refine ⟨G',az,P',s',e',h',λd2 hd2 v2 G2 H2 x2 so=>?_⟩;obtain ⟨G,a,b,P,s,da,db,hr,q⟩:=q' d2 hd2 v2 G2 H2 x2 so;unfold HY at hr
 split at hr
 ·obtain ⟨d,h1,hp⟩:=hr
  obtain ⟨_,_,rfl,h,e⟩:=da.ik;obtain ⟨v,hv,dv⟩:=r6 e h1;exact .inl ⟨_,_,_,v,rfl,db.ofInt,bE.of (s _ _ h),hv,q _ hp _ G _ (.refl s) dv⟩
 ·obtain ⟨d,h1,hp⟩:=hr
  obtain ⟨_,_,rfl,h,e⟩:=da.kR;obtain ⟨v,hv,dv⟩:=r6 e h1;exact .inr ⟨_,_,_,v,rfl,db.ofInt,ed.of (s _ _ h),hv,q _ hp _ G _ (.refl s) dv⟩
 rotate_left
 ·exact hr.elim
 ·obtain ⟨d,h1,hp⟩:=hr
  obtain ⟨_,rfl,h,_⟩:=da.Ar;refine .inl ⟨_,_,_, .int d,rfl,db.ofInt,by rw [eK];exact h.mono s,by rw [y3,h1];rfl,q _ hp _ G _ (.refl s) (.int d)⟩
def cutD{α:Type}(xs:List α)(lo hi:Option Int):List α:=(xs.drop (HT.br xs.length 0 lo)).take (HT.br xs.length xs.length hi-HT.br xs.length 0 lo)
theorem wW{G:Hp}{vs:List V}{ds:List D}(h:au Z G vs ds)(lo hi:Option Int):au Z G (nE vs lo hi) (cutD ds lo hi):=by
 unfold nE cutD;rw [h.length];exact (h.drop _).take _
theorem xR{α β:Type}(f:α→β)(l:List α)(lo hi:Option Int):cutD (l.map f) lo hi=(cutD l lo hi).map f:=by
 unfold cutD;rw [aW,rX,List.map_drop]
abbrev u6:=DN→(Option Int→Prop)→Prop
def zp:u6:=λ_ P=>P none
def E9(t:aQ):u6:=λρ P=>t ρ λd=>match d with
 | .int i=>P (some i)
 |_=>False
def F5(Z:DC)(t:u6):TO:=λσ H Q=>∃(G:Hp)(ρ:DN)(P:Option Int→Prop),aO G H∧b7 Z G σ ρ∧t ρ P∧∀o,P o→∀G' H',Ext G H G' H'→Q o H'
def DO(Z:DC)(X:Cx)(e:Option Expr)(t:u6):Prop:=PO X e (F5 Z t)
theorem PO.imp{e:Option Expr}{t t':TO}(h:PO X e t)(f:∀σ H Q,t' σ H Q→t σ H Q):PO X e t':=λpins s σ H Q I q=>h pins s σ H Q I (f _ _ _ q)
theorem gu:DO Z X none zp:=AN.imp λσ H Q ⟨G,ρ,P,s,e,p,q⟩=>q _ p G H (.refl s)
theorem gw(h:DE Z X e te):DO Z X (some e) (E9 te):=by
 refine (AO h).imp ?_;rintro σ H Q ⟨G,ρ,P,s,e,h,q⟩;refine ⟨G,ρ,_,s,e,h,λd hd v G1 H1 x1 dv=>?_⟩;cases dv<;>first|exact hd.elim|skip
 exact ⟨_,rfl,q _ hd G1 H1 x1⟩
def NJ(te:aQ)(tl th:u6):aQ:=λρ P=>te ρ λx=>tl ρ λlo=>th ρ λhi=>match x with
 | .lst l=>P (.lst (cutD l lo hi))
 | .tup l=>¬(HT.br l.length 0 lo=0∧HT.br l.length l.length hi=l.length)∧P (.tup (cutD l lo hi))
 | .e9 l=>P (.lst ((cutD l lo hi).map D.int))
 |_=>False
variable {lo hi:Option Expr} {tl th:u6} {p2:Pos}
theorem eX(he:DE Z X e te)(hl:DO Z X lo tl)(hu:DO Z X hi th)(eK:X.K=Z.K:=by rfl):DE Z X (.Subscript e (.Slice lo hi none p2) pos) (NJ te tl th):=by
 refine (yC (A8.or C5) he hl hu).imp ?_;rintro σ H Q ⟨G,ρ,P,s,en,h,q⟩;refine ⟨G,ρ,_,s,en,h,λd hd v G1 H1 x1 dv=>?_⟩;refine ⟨G1,ρ,_,x1.sub,en.mono x1.gg,hd,λl hl G2 H2 x2=>?_⟩;refine ⟨G2,ρ,_,x2.sub,(en.mono x1.gg).mono x2.gg,hl,λu hu G3 H3 x3=>?_⟩;have x:=(x1.trans x2).trans x3;have dv:=(dv.mono x2.gg).mono x3.gg;cases dv<;>first|exact hu.elim|skip
 ·rename_i h e
  exact .inl ⟨_,_,rfl,bE.of (x3.sub _ _ h),λp hn=>q _ hu _ _ _ (x.trans (.new x3.sub hn)) (.lst av ((wW e l u).mono (aK (x3.sub.free hn) _)))⟩
 ·rename_i h e
  refine .inr ⟨_,_,rfl,ed.of (x3.sub _ _ h),by rw [e.length];exact hu.1,λp hn=>q _ hu.2 _ _ _ (x.trans (.new x3.sub hn)) (.tup av ((wW e l u).mono (aK (x3.sub.free hn) _)))⟩
 ·rename_i h _
  refine .inl ⟨_,_,rfl,by rw [eK];exact h.mono x3.sub,λp hn=>q _ hu _ _ _ (x.trans (.new x3.sub hn)) (.lst av ?_)⟩
  show au Z _ (cutD _ l u) _;rw [xR];exact .ints _
def Dt:cp:=λds P=>match ds with
 | [.lst l]=>P (.int l.length)
 | [.tup l]=>P (.int l.length)
 | [.e9 l]=>P (.int l.length)
 |_=>False
theorem ba(eK:X.K=Z.K:=by rfl):dJ X (.builtin "len") (kL Z Dt):=by
 refine qJ.imp ?_;rintro xs H Q ⟨G,ds,P,s,dv,hr,q⟩;unfold Dt at hr
 split at hr
 ·obtain ⟨_,rfl,a⟩:=dv.ofOne
  obtain ⟨_,_,rfl,h,e⟩:=a.ik;exact ⟨_,_,rfl, .inl (bE.of (s _ _ h)),by rw [e.length];exact q _ hr _ G H (.refl s) (.int _)⟩
 ·obtain ⟨_,rfl,a⟩:=dv.ofOne
  obtain ⟨_,_,rfl,h,e⟩:=a.kR;exact ⟨_,_,rfl, .inr (ed.of (s _ _ h)),by rw [e.length];exact q _ hr _ G H (.refl s) (.int _)⟩
 ·obtain ⟨_,rfl,a⟩:=dv.ofOne
  obtain ⟨_,rfl,h,_⟩:=a.Ar;exact ⟨_,_,rfl, .inl (by rw [eK];exact h.mono s),by rw [aW];exact q _ hr _ G H (.refl s) (.int _)⟩
 ·exact hr.elim
def y6:cp:=λds P=>match ds with
 | [.lst l]=>P (.lst l)
 | [.tup l]=>P (.lst l)
 |_=>False
theorem lz:dJ X (.type "list") (kL Z y6):=by
 refine kj.imp ?_;rintro xs H Q ⟨G,ds,P,s,dv,hr,q⟩;unfold y6 at hr
 split at hr
 ·obtain ⟨_,rfl,a⟩:=dv.ofOne
  obtain ⟨_,_,rfl,h,e⟩:=a.ik;exact ⟨_,_,rfl, .inl (bE.of (s _ _ h)),λp hn=>q _ hr _ _ _ (.new s hn) (.lst av (e.mono (aK (s.free hn) _)))⟩
 ·obtain ⟨_,rfl,a⟩:=dv.ofOne
  obtain ⟨_,_,rfl,h,e⟩:=a.kR;exact ⟨_,_,rfl, .inr (ed.of (s _ _ h)),λp hn=>q _ hr _ _ _ (.new s hn) (.lst av (e.mono (aK (s.free hn) _)))⟩
 ·exact hr.elim
def Sl:cp:=λds P=>match ds with
 | [.int i]=>P (.int i)
 | [.bl b]=>P (.int (if b then 1 else 0))
 |_=>False
def JR:String→D→Bool
 |"int", .int _=>true
 |"int", .bl _=>true
 |"bool", .bl _=>true
 |"list", .lst _=>true
 |"tuple", .tup _=>true
 |_,_=>false
def Gb(n:String):Bool:=n=="int"||n=="bool"||n=="list"||n=="tuple"
def Ei:D→Bool
 | .aT=>true
 | .bl _=>true
 | .int _=>true
 | .str _=>true
 | .lst _=>true
 | .tup _=>true
 |_=>false
def HX(n:String)(t:aQ):aQ:=λρ P=>t ρ λd=>Ei d=true∧P (.bl (JR n d))
theorem Cf{K:PySem.W.Frag}{H:Hp}{v:V}{d:D}{n:String}(hn:Gb n=true)(hd:Ei d=true)(h:Dv Z H v d):∃t,gX K H v t∧PySem.W.kitOne K t (.type n)=some (JR n d):=by
 unfold Gb at hn;rw [Bool.or_eq_true,Bool.or_eq_true,Bool.or_eq_true,beq_iff_eq,beq_iff_eq,beq_iff_eq,beq_iff_eq] at hn;cases h with
 |aT=>refine ⟨_, .aT,?_⟩;rcases hn with ((rfl|rfl) |rfl) |rfl<;>kernel_rfl
 |bl b=>refine ⟨_, .bl b,?_⟩;rcases hn with ((rfl|rfl) |rfl) |rfl<;>kernel_rfl
 |int b=>refine ⟨_, .int b,?_⟩;rcases hn with ((rfl|rfl) |rfl) |rfl<;>kernel_rfl
 |str b=>refine ⟨_, .str b,?_⟩;rcases hn with ((rfl|rfl) |rfl) |rfl<;>kernel_rfl
 |lst h a=>refine ⟨_, .lst h,?_⟩;rcases hn with ((rfl|rfl) |rfl) |rfl<;>kernel_rfl
 |tup h a=>refine ⟨_, .tup h,?_⟩;rcases hn with ((rfl|rfl) |rfl) |rfl<;>kernel_rfl
 |_=>cases hd
end
section
variable {Z:DC} {X:Cx} {a b c e:Expr} {ta tb tc te:aQ} {pos:Pos}
theorem oJ(n:String){x:Str}{p p':Pos}(ha:DE Z X a ta)(hg:Gl X "isinstance")(hm:X.mg "isinstance"=none)(Oz:Gl X x)(vM:X.mg x=none)(hv:bootBuiltins x=some (.type n))(ok:Gb n=true:=by decide)
  (hn:x≠"__name__":=by decide) (hd:(x==("__debug__":Str))=false:=by decide) (hs:starEach [a, .Name x p'] X.env=(false,eval a X.env)::starEach [.Name x p'] X.env:=by rfl)
  (dG:(backTo pos (starEach [.Name x p'] X.env)).any (·.1)=false:=by rfl) (iX:starEach [.Name x p'] X.env=(false,eval (.Name x p') X.env)::starEach [] X.env:=by rfl):
  DE Z X (.Call (.Name "isinstance" p) [a, .Name x p'] [] pos) (HX n ta):=by
 have hb:PE X (.Name x p') (tC (.ty n)):=AB Oz vM hv rfl hn hd;refine (m7 se hg hm (by decide+kernel) (cC ha (cC hb fj iX) hs) (by decide) (by decide) hs dG).imp ?_
 rintro σ H Q ⟨G,ρ,P,s,e,h,q⟩;refine ⟨G,ρ,_,s,e,h,?_⟩;rintro d ⟨hk,hp⟩ v G1 H1 x1 dv;obtain ⟨t,ht,iG⟩:=Cf (K:=X.K) (H:=H1) ok hk (dv.mono x1.sub);exact ⟨v,n,t,_,rfl,ht,iG,q _ hp _ G1 H1 x1 (.bl _)⟩
def p5(Z:DC)(g:dB):TG:=λv σ H Q=>∃(G:Hp)(ρ:DN)(d:D)(P:DN→Prop),aO G H∧b7 Z G σ ρ∧Dv Z G v d∧g d ρ P∧∀az,P az→∀aI,b7 Z G aI az→Q aI H
def DG(Z:DC)(X:Cx)(e:Expr)(g:dB):Prop:=PG X e (p5 Z g)
theorem PG.imp{e:Expr}{t t':TG}(h:PG X e t)(f:∀v σ H Q,t' v σ H Q→t v σ H Q):PG X e t':=λpins s σ H v u Q I r q=>h pins s σ H v u Q I r (f _ _ _ _ q)
def lE(i:Nat):dB:=λd ρ P=>P (ρ.set i (some d))
theorem bW(i:Nat){x:Str}(hN:X.N.Nodup)(hi:X.N[i]? =some x:=by rfl)(hx:Loc X.env.scope x:=by exact Or.inl rfl)(hf:X.fn x=true∨X.env.scope.names.lookup x=some .local:=by first|exact .inl rfl|exact .inr rfl|assumption):DG Z X (.Name x pos) (lE i):=
 (uC hN hi hx hf).imp λv σ H Q ⟨G,ρ,d,P,s,e,dv,h,q⟩=>q _ h _ (e.set dv)
abbrev ny:=List D→DN→(DN→Prop)→Prop
theorem tK.imp{es:List Expr}{t t':rZ}(h:tK X es t)(f:∀v σ H Q,t' v σ H Q→t v σ H Q):tK X es t':=λpins s σ H v u Q I r q=>h pins s σ H v u Q I r (f _ _ _ _ q)
def Fh:ny:=λds ρ P=>ds= []∧P ρ
def BK(g:dB)(gs:ny):ny:=λds ρ P=>match ds with
 |d::r=>g d ρ λaz=>gs r az P
 | []=>False
def Fi(n:Nat)(gs:ny):dB:=λd ρ P=>match d with
 | .tup l=>l.length=n∧gs l ρ P
 |_=>False
def oV(Z:DC)(G:Hp)(J:It)(ds:List D):Prop:=∀G2 H2,aO G G2→aO G2 H2→∀i:Nat,(i<ds.length→J.go i H2)∧(ds.length≤i→J.stop i H2)∧
 ∀x H',i<ds.length→J.yld i H2 x H'→∃G3 d,Ext G2 H2 G3 H'∧ds[i]? =some d∧Dv Z G3 x d
def sM(Z:DC)(wi:gT):TI:=λσ H R=>∃(G:Hp)(ρ:DN)(P:List D→Prop),aO G H∧b7 Z G σ ρ∧wi ρ P∧∀ds,P ds→∀J G' H',Ext G H G' H'→oV Z G' J ds→R J H'
def DI(Z:DC)(X:Cx)(tg e:Expr)(wi:gT):Prop:=PI X tg e (sM Z wi)
theorem PI.imp{tg e:Expr}{t t':TI}(h:PI X tg e t)(f:∀σ H Q,t' σ H Q→t σ H Q):PI X tg e t':=λpins s σ H Q I q=>h pins s σ H Q I (f _ _ _ q)
def Fj(t:aQ):gT:=λρ P=>t ρ λd=>match d with
 | .lst l=>P l
 |_=>False
theorem Af{K:PySem.W.Frag}{G:Hp}{a:Addr}{xs:List V}{ds:List D}(h:G a=some (.lst xs))(e:au Z G xs ds):oV Z G (Ex K a) ds:=by
 intro G2 H2 s1 s2 i;have h2:=bE.of (K:=K) (s2 _ _ (s1 _ _ h));have l:=e.length;refine ⟨λhi=>⟨xs,xs[i],h2,eN (by omega)⟩,λhi=>⟨xs,h2,by omega⟩,?_⟩
 rintro x H' hi ⟨rfl,hx⟩;obtain ⟨d,hd,dv⟩:=e.uc (hx _ h2);exact ⟨G2,d, .refl s2,hd,dv.mono s1⟩
theorem bu{tg:Expr}(h:DE Z X e te):DI Z X tg e (Fj te):=by
 refine (AL h).imp ?_;rintro σ H Q ⟨G,ρ,P,s,en,h,q⟩;refine ⟨G,ρ,_,s,en,h,λd hd v G1 H1 x1 dv=>?_⟩;cases dv<;>first|exact hd.elim|skip
 rename_i ha e
 exact ⟨_,rfl,⟨_,bE.of (x1.sub _ _ ha)⟩,q _ hd _ G1 H1 x1 (Af ha e)⟩
def dh(lo:Int)(n:Nat):List D:=(List.range n).map λ(k:Nat)=>D.int (lo+(k:Int))
theorem nO{lo:Int}{n i:Nat}(h:i<n):(dh lo n)[i]? =some (.int (lo+i)):=by
 unfold dh;rw [cU,rV h];rfl
theorem mP{G:Hp}(lo:Int)(n:Nat):oV Z G (yW lo n) (dh lo n):=by
 intro G2 H2 s1 s2 i;have l:(dh lo n).length=n:=by unfold dh;simp
 rw [l];refine ⟨λhi=>hi,λhi=>hi,?_⟩;rintro x H' hi ⟨rfl,rfl⟩;exact ⟨G2,_, .refl s2,nO hi, .int _⟩
def D2(t:fu):gT:=λρ P=>t ρ λds=>match ds with
 | [.int j]=>(-(2^62)≤j∧j<2^62)∧P (dh 0 j.toNat)
 |_=>False
def IF(t:fu):gT:=λρ P=>t ρ λds=>match ds with
 | [.int i, .int j]=>(-(2^62)≤i∧i<2^62∧-(2^62)≤j∧j<2^62)∧P (dh i (j-i).toNat)
 |_=>False
variable {t:fu}
theorem pF{tg:Expr}{p:Pos}(hg:Gl X "range")(hm:X.mg "range"=none)(ha:DA Z X [a] t)(hs:starEach [a] X.env= [(false,eval a X.env)]:=by rfl):DI Z X tg (.Call (.Name "range" p) [a] [] pos) (D2 t):=by
 refine (qm hg hm ha hs).imp ?_;rintro σ H Q ⟨G,ρ,P,s,en,h,q⟩;refine ⟨G,ρ,_,s,en,h,λds hd vs G1 H1 x1 dv=>?_⟩
 split at hd
 ·obtain ⟨_,rfl,a⟩:=dv.ofOne
  exact ⟨_,by rw [a.ofInt],hd.1.1,hd.1.2,q _ hd.2 _ G1 H1 x1 (mP 0 _)⟩
 ·exact hd.elim
def jA(l:List D):List D:=l.mapIdx λi x=> .tup [.int (i:Int),x]
def BL(t:fu):gT:=λρ P=>t ρ λds=>match ds with
 | [.lst l]=>P (jA l)
 |_=>False
theorem Ae{K:PySem.W.Frag}{G:Hp}{a:Addr}{xs:List V}{ds:List D}(h:G a=some (.lst xs))(e:au Z G xs ds):oV Z G (Ew K a) (jA ds):=by
 intro G2 H2 s1 s2 i;have h2:=bE.of (K:=K) (s2 _ _ (s1 _ _ h));have l:=e.length;rw [show (jA ds).length=ds.length by unfold jA;simp]
 refine ⟨λhi=>⟨xs,xs[i],h2,eN (by omega)⟩,λhi=>⟨xs,h2,by omega⟩,?_⟩
 rintro x H' hi ⟨t,y,rfl,ht,rfl,hx⟩;obtain ⟨d,hd,dv⟩:=e.uc (hx _ h2);refine ⟨_,_, .new s2 ht,by unfold jA;rw [List.getElem?_mapIdx,hd];rfl,?_⟩
 exact .tup av (.cons (.int _) (.cons ((dv.mono s1).mono (aK (s2.free ht) _)) .nil))
theorem iD{p:Pos}{es:List Expr}{k1}{tp:Pos}(hg:Gl X "enumerate")(hm:X.mg "enumerate"=none)(ha:DA Z X [a] t)(hs:starEach [a] X.env= [(false,eval a X.env)]:=by rfl):DI Z X (.Tuple es k1 tp) (.Call (.Name "enumerate" p) [a] [] pos) (BL t):=by
 refine (AK hg hm ha hs).imp ?_;rintro σ H Q ⟨G,ρ,P,s,en,h,q⟩;refine ⟨G,ρ,_,s,en,h,λds hd vs G1 H1 x1 dv=>?_⟩
 split at hd
 ·obtain ⟨_,rfl,a⟩:=dv.ofOne
  obtain ⟨_,_,rfl,h,e⟩:=a.ik;exact ⟨_,rfl,⟨_,x1.sub _ _ h⟩,q _ hd _ G1 H1 x1 (Ae h e)⟩
 ·exact hd.elim
def rP(src:List (Option Nat))(ρ:DN):DN:=src.map λo=>o.bind λi=>(ρ[i]?).bind id
theorem b7.src{G:Hp}{σ:St}{ρ:DN}(e:b7 Z G σ ρ)(src:List (Option Nat)):b7 Z G (ky src σ) (rP src ρ):=by
 refine ⟨by unfold ky rP;simp,λi d h=>?_⟩
 unfold rP at h;unfold ky;rw [cU] at h ⊢;cases k:src[i]? with
 |none=>rw [k] at h;cases h
 |some o=>
  rw [k] at h;cases o with
  |none=>cases h
  |some j=>
   have h':(ρ[j]?).bind id=some d:=Option.some.inj h;cases m:ρ[j]? with
   |none=>rw [m] at h';cases h'
   |some z=>
    rw [m] at h';have h2:z=some d:=h';subst h2;obtain ⟨v,hv,dv⟩:=e.at_ j d m;exact ⟨v,by show some ((σ[j]?).bind id)=_;rw [hv];rfl,dv⟩
def jF(g:dB)(tt:b6)(te:aQ):List D→DN→List D→(DN→List D→Prop)→Prop
 | [],ρ,acc,N=>N ρ acc
 |x::xs,ρ,acc,N=>g x ρ λbB=>tt bB λb=>if b=true then te bB λd=>acc.length<sizeLine∧jF g tt te xs bB (acc++ [d]) N else jF g tt te xs bB acc N
def E5(wi:gT)(g:dB)(tt:b6)(te:aQ)(src:List (Option Nat)):aQ:=λρ P=>wi ρ λds=>jF g tt te ds (rP src ρ) [] λ_ out=>P (.lst out)
def zt:b6:=λ_ P=>P true
def u7(Z:DC)(X:Cx)(ifs:List Expr)(t:b6):Prop:=qI X ifs (liftT Z t)
theorem qI.imp{ifs:List Expr}{t t':TT}(h:qI X ifs t)(f:∀σ H Q,t' σ H Q→t σ H Q):qI X ifs t':=λpins s σ H Q I q=>h pins s σ H Q I (f _ _ _ q)
theorem fB:u7 Z X [] zt:=uH.imp λσ H Q ⟨G,ρ,P,s,e,p,q⟩=>q _ p G H (.refl s)
theorem jy{tA:b6}(h:DT Z X c tA):u7 Z X [c] tA:=AU h
def CS(Z:DC)(G1 H1:Hp)(Ad:Addr)(ρ:DN)(acc:List D)(σ:St)(H:Hp):Prop:=
 ∃(G:Hp)(ys:List V),aO G1 G∧aO G H∧aO H1 H∧(∀b,H1 b≠none→G1 b=none→G b=none)∧G Ad=none∧H Ad=some (.lst ys)∧au Z G ys acc∧b7 Z G σ ρ
theorem eI{H H':Hp}(s:aO H H'){b:Addr}(h:H b≠none):H' b≠none:=λz=>by
 cases e:H b with
 |none=>exact h e
 |some o=>rw [s b o e] at z;cases z
theorem pG{α:Type}{l:List α}{i:Nat}{x:α}(h:l[i]? =some x):l.drop i=x::l.drop (i+1):=by
 obtain ⟨hi,e⟩:=eo.mp h;rw [Bu hi,e]
theorem rF{G1 H1:Hp}{Ad:Addr}{J:It}{ds:List D}{g:dB}{tt:b6}{te:aQ}{N:DN→List D→Prop}(hA:H1 Ad=none)(G0:Hp)(it:oV Z G0 J ds)(i:Nat)(ρ:DN)(acc:List D)(σ:St)(H:Hp)
  (c:CS Z G1 H1 Ad ρ acc σ H) (hG:∀G,aO G1 G→aO G0 G) (hi:i<ds.length) (h:jF g tt te (ds.drop i) ρ acc N):
  J.go i H∧∀x H3,J.yld i H x H3→p5 Z g x σ H3 λjr H4=>liftT Z tt jr H4 λb H5=>
   if b=true then cJ Z te jr H5 λv H6=>∃ys,H6 Ad=some (.lst ys)∧ys.length<sizeLine∧(∃az bV,CS Z G1 H1 Ad az bV jr (upd H6 Ad (.lst (ys++ [v])))∧jF g tt te (ds.drop (i+1)) az bV N)
   else ∃az bV,CS Z G1 H1 Ad az bV jr H5∧jF g tt te (ds.drop (i+1)) az bV N:=by
 obtain ⟨G2,ys,s1,s2,s3,off,gA,pQ,aV,en⟩:=c;obtain ⟨go,_,yld⟩:=it G2 H (hG _ s1) s2 i;refine ⟨go hi,λx H3 y=>?_⟩;obtain ⟨G3,d,x3,hd,dv⟩:=yld x H3 hi y;rw [pG hd] at h;refine ⟨G3,ρ,d,_,x3.sub,en.mono x3.gg,dv,h,λbB h1 jr vw=>?_⟩;refine ⟨G3,bB,_,x3.sub,vw,h1,λb hb G5 H5 x5=>?_⟩;have uV:=x3.trans x5;have Au:∀{G Et:Hp},Ext G2 H G Et→G Ad=none:=λx=>x.off Ad (by rw [pQ];exact λz=>nomatch z) gA
 have Eh:∀{G Et:Hp},Ext G2 H G Et→∀b,H1 b≠none→G1 b=none→G b=none:=λx b h1 h2=>x.off b (eI s3 h1) (off b h1 h2);cases b with
 |false=>
  refine bX ⟨bB,acc,⟨G5,ys,s1.trans uV.gg,uV.sub,s3.trans uV.hh,Eh uV,Au uV,uV.hh _ _ pQ,aV.mono uV.gg,vw.mono x5.gg⟩,?_⟩;simpa using hb
 |true=>
  refine cq ⟨G5,bB,_,x5.sub,vw.mono x5.gg,(by simpa using hb),λd' jC v G6 H6 x6 Fm=>?_⟩
  have x:=uV.trans x6;refine ⟨ys,x.hh _ _ pQ,by rw [aV.length];exact jC.1,bB,_,⟨G6,ys++ [v],s1.trans x.gg,λb o e=>?_,λb o e=>?_,Eh x,Au x,av,(aV.mono x.gg).snoc Fm,(vw.mono x5.gg).mono x6.gg⟩,jC.2⟩
  ·rw [ax (aS e (Au x))];exact x.sub _ _ e
  ·rw [ax (aS e hA)];exact (s3.trans x.hh) _ _ e
theorem CS.done{G H G1 H1 H2:Hp}{Ad:Addr}{ρ:DN}{acc:List D}{σ:St}(c:CS Z G1 H1 Ad ρ acc σ H2)(x1:Ext G H G1 H1)(hA:H1 Ad=none):∃G',Ext G H G' H2∧Dv Z G' (.ref Ad) (.lst acc):=by
 obtain ⟨G2,ys,s1,s2,s3,off,gA,pQ,aV,en⟩:=c;refine ⟨upd G2 Ad (.lst ys),⟨(x1.gg.trans s1).trans (aK gA _),λb o e=>?_,x1.hh.trans s3,λb hb hg=>?_⟩, .lst av (aV.mono (aK gA _))⟩
 ·by_cases z:b=Ad
  ·subst z;rw [av] at e;cases e;exact pQ
  ·rw [ax z] at e;exact s2 _ _ e
 ·have h1:=eI x1.hh hb
  rw [ax (λz=>h1 (by rw [z];exact hA))]
  exact off b h1 (x1.off b hb hg)
theorem CS.begin{G1 H1:Hp}{Ad:Addr}{ρ:DN}{σ:St}(s:aO G1 H1)(hA:H1 Ad=none)(en:b7 Z G1 σ ρ):CS Z G1 H1 Ad ρ [] σ (upd H1 Ad (.lst [])):=
 ⟨G1,[], .refl _,λb o e=>by rw [ax (aS e (s.free hA))];exact s _ _ e,aK hA _,λ_ _ h=>h,s.free hA,av, .nil,en⟩
variable {tg iter elt:Expr} {ifs:List Expr} {scope:Scope} {NC:List Str} {src:List (Option Nat)} {wi:gT} {g:dB} {tt:b6}
theorem xi:∀σ H Q,cJ Z (E5 wi g tt te src) σ H Q→Bl (sM Z wi) (p5 Z g) (liftT Z tt) (cJ Z te) src σ H Q:=by
 rintro σ H Q ⟨G,ρ,P,s,en,h,q⟩;refine ⟨G,ρ,_,s,en,h,λds hd J G1 H1 x1 it Ad hA=>?_⟩;refine ⟨λi m gS H2=>m=ds.length-i∧i≤ds.length∧∃gR acc,CS Z G1 H1 Ad gR acc gS H2∧jF g tt te (ds.drop i) gR acc λ_ out=>P (.lst out),⟨_,rfl,fI _,_,[], .begin x1.sub hA ((en.mono x1.gg).src src),hd⟩,?_⟩;rintro i m gS H2 ⟨rfl,hi,gR,acc,c,hl⟩
 by_cases eC:i<ds.length
 ·obtain ⟨go,turn⟩:=rF hA G1 it i gR acc gS H2 c (λ_ s=>s) eC hl
  exact .inr ⟨go,_,λaI H' n=>⟨ds.length-(i+1),by omega,rfl,eC,n⟩,turn⟩
 ·have e:ds.drop i= []:=xI (by omega)
  rw [e] at hl;obtain ⟨G',x,dv⟩:=c.done x1 hA;obtain ⟨G2,ys,s1,s2,_⟩:=c;exact .inl ⟨(it G2 H2 s1 s2 i).2.1 (by omega),q _ hl _ G' H2 x dv⟩
theorem pE(hc:X.calm=true)(c:bG X scope)(dS:b8 scope X.N src NC)(hi:DI Z X tg iter wi)
  (hg:∀ex s H,DG Z (dN X scope NC ex s H) tg g) (ht:∀ex s H,u7 Z (dN X scope NC ex s H) ifs tt) (he:∀ex s H,DE Z (dN X scope NC ex s H) elt te)
  (hs:∀x,foldedSetIterable iter X.env x=pure x:=by intro _;rfl):DE Z X (.ListComp elt [⟨tg,iter,ifs,0⟩] scope pos) (E5 wi g tt te src):=(AG hc c dS hi hg ht he hs).imp xi
variable {t0 i0 t1 i1:Expr} {f0 f1:List Expr} {Mm:gT} {g1:dB} {Ml:b6}
end
inductive bU (R:V→D→List Addr→Prop):List V→List D→List Addr→Prop
 |nil:bU R [] [] []
 |cons {v:V} {vs:List V} {d:D} {ds:List D} {f fs:List Addr}:R v d f→bU R vs ds fs→bU R (v::vs) (d::ds) (f++fs)
def JS:D→Bool
 | .lst _=>true
 |_=>false
def Own(Z:DC)(G H:Hp):Nat→V→D→List Addr→Prop
 |0,v,d,fp=>Dv Z G v d∧fp= []
 |n+1,v,d,fp=>(∃a xs ds fK,v= .ref a∧d= .lst ds∧H a=some (.lst xs)∧fp=a::fK∧bU (Own Z G H n) xs ds fK)∨(1≤n∧∃a xs ds,v= .ref a∧d= .tup ds∧G a=some (.tup xs)∧bU (λv d f=>(JS d=true∧Own Z G H n v d f)∨(JS d=false∧Dv Z G v d∧f= [])) xs ds fp)∨(∃a φ,v= .ref a∧H a=some (.ext φ)∧fp= [a]∧((n=98∧∃b ns,d= .set b ns∧φ=dm b a ns)∨(n=97∧∃k,d= .x k∧xO G a φ k)))
theorem Own.lst{Z:DC}{G H:Hp}{n:Nat}{v:V}{ds:List D}{fp:List Addr}(o:Own Z G H (n+1) v (.lst ds) fp):∃a xs dr fK,v= .ref a∧D.lst ds= .lst dr∧H a=some (.lst xs)∧fp=a::fK∧bU (Own Z G H n) xs dr fK:=by
 rcases o with o| ⟨_,a,xs,ds,_,e,_⟩ | ⟨a,φ,_,_,_,⟨_,b,ns,e,_⟩ | ⟨_,k,e,_⟩⟩
 ·exact o
 ·cases e
 ·cases e
 ·cases e
theorem Own.En{Z:DC}{G H:Hp}{v:V}{b:Bool}{ns:List Int}{fp:List Addr}(o:Own Z G H 99 v (.set b ns) fp):∃a,v= .ref a∧H a=some (.ext (dm b a ns))∧fp= [a]:=by
 rcases o with ⟨_,_,_,_,_,e,_⟩ | ⟨_,a,xs,ds,_,e,_⟩ | ⟨a,φ,h1,h2,h3,⟨_,b,ns,e,e2⟩ | ⟨_,k,e,_⟩⟩
 ·cases e
 ·cases e
 ·cases e;subst e2;exact ⟨a,h1,h2,h3⟩
 ·cases e
theorem Own.xA{Z:DC}{G H:Hp}{v:V}{k:XD}{fp:List Addr}(o:Own Z G H 98 v (.x k) fp):∃a φ,v= .ref a∧H a=some (.ext φ)∧fp= [a]∧xO G a φ k:=by
 rcases o with ⟨_,_,_,_,_,e,_⟩ | ⟨_,a,xs,ds,_,e,_⟩ | ⟨a,φ,h1,h2,h3,⟨_,b,ns,e,e2⟩ | ⟨_,k,e,h4⟩⟩
 ·cases e
 ·cases e
 ·cases e
 ·cases e;exact ⟨a,φ,h1,h2,h3,h4⟩
theorem Own.one{Z:DC}{G H:Hp}{v:V}{d:D}{fp:List Addr}(o:Own Z G H 1 v d fp):∃a xs ds fK,v= .ref a∧d= .lst ds∧H a=some (.lst xs)∧fp=a::fK∧bU (Own Z G H 0) xs ds fK:=by
 rcases o with o| ⟨z,_⟩ | ⟨_,_,_,_,_,⟨z,_⟩ | ⟨z,_⟩⟩
 ·exact o
 ·exact absurd z (by decide)
 ·exact absurd z (by decide)
 ·exact absurd z (by decide)
theorem bU.imp{R R':V→D→List Addr→Prop}:∀{vs:List V}{ds:List D}{fp:List Addr},bU R vs ds fp→(∀v d f,(∀b∈f,b∈fp)→R v d f→R' v d f)→bU R' vs ds fp
 |_,_,_, .nil,_=> .nil
 |_,_,_, .cons a as,h=> .cons (h _ _ _ (λb hb=>fV _ hb) a) (as.imp λv d f hf r=>h v d f (λb hb=>dX _ (hf b hb)) r)
theorem bU.length{R:V→D→List Addr→Prop}:∀{vs:List V}{ds:List D}{fp:List Addr},bU R vs ds fp→vs.length=ds.length
 |_,_,_, .nil=>rfl
 |_,_,_, .cons _ as=>congrArg (·+1) as.length
section
variable {Z:DC} {G G' H H':Hp}
theorem Own.keep:∀{n:Nat}{v:V}{d:D}{fp:List Addr},Own Z G H n v d fp→aO G G'→(∀b∈fp,H' b=H b)→Own Z G' H' n v d fp
 |0,_,_,_,⟨a,b⟩,s,_=>⟨a.mono s,b⟩
 |n+1,_,_,_, .inl ⟨a,xs,ds,fK,hv,hd,ha,hf,ho⟩,s,k=>by
  subst hf;exact .inl ⟨a,xs,ds,fK,hv,hd,by rw [k a (fQ ..)];exact ha,rfl,ho.imp λv d f hb r=>Own.keep r s λb q=>k b (fJ _ (hb b q))⟩
 |n+1,_,_,_, .inr (.inl ⟨h1,a,xs,ds,hv,hd,ha,ho⟩),s,k=> .inr (.inl ⟨h1,a,xs,ds,hv,hd,s _ _ ha,ho.imp λv d f hb r=>r.imp (λr=>⟨r.1,Own.keep r.2 s λb q=>k b (hb b q)⟩) λr=>⟨r.1,r.2.1.mono s,r.2.2⟩⟩)
 |n+1,_,_,_, .inr (.inr ⟨a,φ,hv,ha,hf,hx⟩),s,k=> .inr (.inr ⟨a,φ,hv,by rw [k a (by rw [hf];exact fQ ..)];exact ha,hf,hx.imp id λ⟨h1,k,h2,h3⟩=>⟨h1,k,h2,h3.mono s⟩⟩)
theorem bU.t5{R:V→D→List Addr→Prop}:∀{vs:List V}{ds:List D}{fp:List Addr},bU R vs ds fp→(∀v d f,(∀b∈f,b∈fp)→R v d f→Dv Z G' v d)→au Z G' vs ds
 |_,_,_, .nil,_=> .nil
 |_,_,_, .cons a as,k=> .cons (k _ _ _ (λb hb=>fV _ hb) a) (as.t5 λv d f hf r=>k v d f (λb hb=>dX _ (hf b hb)) r)
theorem Own.dv:∀{n:Nat}{v:V}{d:D}{fp:List Addr},Own Z G H n v d fp→aO G G'→(∀b∈fp,∀o,H b=some o→G' b=some o)→Dv Z G' v d
 |0,_,_,_,⟨a,_⟩,s,_=>a.mono s
 |n+1,_,_,_, .inl ⟨a,xs,ds,fK,hv,hd,ha,hf,ho⟩,s,k=>by
  subst hf hv hd;exact .lst (k a (fQ ..) _ ha) (ho.t5 λv d f hf r=>Own.dv r s λb hb=>k b (fJ _ (hf b hb)))
 |n+1,_,_,_, .inr (.inl ⟨_,a,xs,ds,hv,hd,ha,ho⟩),s,k=>by
  subst hv hd;exact .tup (s _ _ ha) (ho.t5 λv d f hf r=>r.elim (λr=>Own.dv r.2 s λb hb=>k b (hf b hb)) λr=>r.2.1.mono s)
 |n+1,_,_,_, .inr (.inr ⟨a,φ,hv,ha,hf,hx⟩),s,k=>by
  subst hv hf
  rcases hx with ⟨_,b,ns,hd,hp⟩ | ⟨_,kx,hd,hp⟩
  ·subst hd hp
   exact .set (k a (fQ ..) _ ha)
  ·subst hd
   exact .x (k a (fQ ..) _ ha) (hp.mono s)
theorem bU.flat:∀{vs:List V}{ds:List D}{fp:List Addr},bU (Own Z G H 0) vs ds fp→au Z G vs ds∧fp= []
 |_,_,_, .nil=>⟨.nil,rfl⟩
 |_,_,_, .cons a as=>by
  obtain ⟨h1,h2⟩:=as.flat;obtain ⟨a1,a2⟩:=a;exact ⟨.cons a1 h1,by rw [a2,h2];rfl⟩
theorem au.own:∀{vs:List V}{ds:List D},au Z G vs ds→bU (Own Z G H 0) vs ds []
 |_,_, .nil=> .nil
 |_,_, .cons a as=> .cons (f:= []) (fs:= []) ⟨a,rfl⟩ as.own
theorem Dv.flat{v:V}{d:D}(h:Dv Z G v d)(f:bY d=true):Dv Z G' v d:=by
 cases h with
 |aT=>exact .aT
 |bl b=>exact .bl b
 |int i=>exact .int i
 |str x k=>exact .str x k
 |_=>cases f
end
mutual
def jo:D→Bool
 | .aT=>true
 | .bl _=>true
 | .int _=>true
 | .str _=>true
 | .tup l=>xk l
 |_=>false
def xk:List D→Bool
 | []=>true
 |d::ds=>jo d&&xk ds
end
mutual
theorem Dv.jo{Z:DC}{G G':Hp}(k:∀b xs,G b=some (.tup xs)→G' b=some (.tup xs)):∀{v:V}{d:D},Dv Z G v d→L2.jo d=true→Dv Z G' v d
 |_,_, .aT,_=> .aT
 |_,_, .bl b,_=> .bl b
 |_,_, .int i,_=> .int i
 |_,_, .str x h,_=> .str x h
 |_,_, .tup h a,f=> .tup (k _ _ h) (au.jo k a (by rw [L2.jo] at f;exact f))
 |_,_, .lst _ _,f=>by simp [L2.jo] at f
 |_,_, .obj _,f=>by simp [L2.jo] at f
 |_,_, .rng _,f=>by simp [L2.jo] at f
 |_,_, .e9 _ _,f=>by simp [L2.jo] at f
 |_,_, .iO _ _ _ _ _,f=>by simp [L2.jo] at f
 |_,_, .set _,f=>by simp [L2.jo] at f
 |_,_, .x _ _,f=>by simp [L2.jo] at f
theorem au.jo{Z:DC}{G G':Hp}(k:∀b xs,G b=some (.tup xs)→G' b=some (.tup xs)):∀{vs:List V}{ds:List D},au Z G vs ds→xk ds=true→au Z G' vs ds
 |_,_, .nil,_=> .nil
 |_,_, .cons a as,f=>by
  rw [xk,qB] at f;exact .cons (Dv.jo k a f.1) (au.jo k as f.2)
end
def El:HO→Bool
 | .lst _=>true
 | .ext _=>true
 |_=>false
theorem Own.Fn{Z:DC}{G G' H:Hp}:∀{n:Nat}{v:V}{d:D}{fp:List Addr},Own Z G H n v d fp→aO G G'→(∀b∈fp,∀o,El o=true→H b=some o→G' b=some o)→Dv Z G' v d
 |0,_,_,_,⟨a,_⟩,s,_=>a.mono s
 |n+1,_,_,_, .inl ⟨a,xs,ds,fK,hv,hd,ha,hf,ho⟩,s,k=>by
  subst hf hv hd;exact .lst (k a (fQ ..) _ rfl ha) (ho.t5 λv d f hf r=>Own.Fn r s λb hb=>k b (fJ _ (hf b hb)))
 |n+1,_,_,_, .inr (.inl ⟨_,a,xs,ds,hv,hd,ha,ho⟩),s,k=>by
  subst hv hd;exact .tup (s _ _ ha) (ho.t5 λv d f hf r=>r.elim (λr=>Own.Fn r.2 s λb hb=>k b (hf b hb)) λr=>r.2.1.mono s)
 |n+1,_,_,_, .inr (.inr ⟨a,φ,hv,ha,hf,hx⟩),s,k=>by
  subst hv hf
  rcases hx with ⟨_,b,ns,hd,hp⟩ | ⟨_,kx,hd,hp⟩
  ·subst hd hp
   exact .set (k a (fQ ..) _ rfl ha)
  ·subst hd
   exact .x (k a (fQ ..) _ rfl ha) (hp.mono s)
structure Bs where
 G₀:Hp
 H₀:Hp
 Gf:Hp
structure SIx (Z:DC) (B:Bs) (md:List Nat) (ρ:DN) (σ:St) (H G:Hp) (fp:Nat→List Addr):Prop where
 ex:Ext B.G₀ B.H₀ G H
 fl:aO B.Gf G
 len:ρ.length=σ.length
 at_:∀(i:Nat)(d:D),ρ[i]? =some (some d)→∃v,σ[i]? =some (some v)∧Own Z G H (md.getD i 0) v d (fp i)
 nd:∀i,(fp i).Nodup
 ap:∀i j b,i≠j→b∈fp i→b∉fp j
 nw:∀i b,b∈fp i→B.H₀ b=none∧H b≠none∧G b=none
def SI(Z:DC)(B:Bs)(md:List Nat)(ρ:DN)(σ:St)(H:Hp):Prop:=∃G fp,SIx Z B md ρ σ H G fp
def ck:List Nat→DN→DN
 |_,[]=> []
 | [],o::ρ=>o::ρ
 |0::md,o::ρ=>o::ck md ρ
 | (_+1)::md,_::ρ=>none::ck md ρ
theorem kU:∀(md:List Nat)(ρ:DN),(ck md ρ).length=ρ.length
 |md,[]=>by cases md<;>rfl
 | [],o::ρ=>rfl
 |0::md,o::ρ=>by rw [ck,dY,kU md ρ,dY]
 | (_+1)::md,_::ρ=>by rw [ck,dY,kU md ρ,dY]
theorem ng{d:D}:∀(md:List Nat)(ρ:DN)(i:Nat),(ck md ρ)[i]? =some (some d)→md.getD i 0=0∧ρ[i]? =some (some d)
 |md,[],i,h=>by cases md<;>simp [ck] at h
 | [],o::ρ,i,h=>⟨by simp,h⟩
 |0::md,o::ρ,0,h=>⟨rfl,by simpa [ck] using h⟩
 |0::md,o::ρ,i+1,h=>by
  rw [ck,qx] at h;obtain ⟨a,b⟩:=ng md ρ i h;exact ⟨by rw [List.getD_cons_succ];exact a,by rw [qx];exact b⟩
 | (_+1)::md,_::ρ,0,h=>by simp [ck] at h
 | (_+1)::md,_::ρ,i+1,h=>by
  rw [ck,qx] at h;obtain ⟨a,b⟩:=ng md ρ i h;exact ⟨by rw [List.getD_cons_succ];exact a,by rw [qx];exact b⟩
def oG(md:List Nat):Bool→DN→DN
 |true,ρ=>ρ
 |false,ρ=>ck md ρ
def oM:Bool→D→Prop
 |true,d=>jo d=true
 |false,_=>True
section
variable {Z:DC} {B:Bs} {md:List Nat} {ρ:DN} {σ:St} {H G:Hp} {fp:Nat→List Addr}
theorem wy{i:Nat}{d:D}(h:(ck md ρ)[i]? =some (some d)):md.getD i 0=0∧ρ[i]? =some (some d):=ng md ρ i h
theorem SIx.zH(S:SIx Z B md ρ σ H G fp):b7 Z G σ (ck md ρ):=by
 refine ⟨by rw [kU];exact S.len,λi d h=>?_⟩
 obtain ⟨z,h⟩:=wy h;obtain ⟨v,hv,o⟩:=S.at_ i d h;rw [z] at o;exact ⟨v,hv,o.1⟩
theorem SIx.nH(S:SIx Z B md ρ σ H G fp):b7 Z H σ ρ:=by
 refine ⟨S.len,λi d h=>?_⟩;obtain ⟨v,hv,o⟩:=S.at_ i d h;exact ⟨v,hv,o.dv S.ex.sub λb _ u e=>e⟩
theorem SIx.grow{G' H':Hp}(S:SIx Z B md ρ σ H G fp)(x:Ext G H G' H'):SIx Z B md ρ σ H' G' fp where
 ex:=S.ex.trans x
 fl:=S.fl.trans x.gg
 len:=S.len
 at_:=λi d h=>by
  obtain ⟨v,hv,o⟩:=S.at_ i d h;refine ⟨v,hv,o.keep x.gg λb hb=>?_⟩;cases e:H b with
  |none=>exact absurd e (S.nw i b hb).2.1
  |some u=>exact x.hh _ _ e
 nd:=S.nd
 ap:=S.ap
 nw:=λi b hb=>let ⟨h1,h2,h3⟩:=S.nw i b hb;⟨h1,eI x.hh h2,x.off b h2 h3⟩
theorem Ext.all{G' H':Hp}(s:aO G H)(x:Ext H H G' H'):Ext G H G H':=⟨.refl _,s.trans x.hh,x.hh,λ_ _ h=>h⟩
open Classical in
noncomputable def fP(G H:Hp)(fp:Nat→List Addr):Hp:=λb=>if ∃i,b∈fp i then (match H b with|some (.lst xs)=>some (.lst xs) |some (.ext φ)=>some (.ext φ) |_=>none) else G b
open Classical in
noncomputable def mR(G:Hp)(fp:Nat→List Addr):Hp:=λb=>if ∃i,b∈fp i then none else G b
theorem yU{b:Addr}{o:HO}(i:Nat)(h:b∈fp i)(ho:El o=true)(e:H b=some o):fP G H fp b=some o:=by
 unfold fP;rw [if_pos ⟨i,h⟩,e];cases o<;>first|rfl|cases ho
theorem lg{b:Addr}(h:¬∃i,b∈fp i):fP G H fp b=G b:=if_neg h
theorem SIx.D8(S:SIx Z B md ρ σ H G fp):aO G (fP G H fp)∧aO (fP G H fp) H∧b7 Z (fP G H fp) σ ρ:=by
 have s1:aO G (fP G H fp):=λb o e=>by
  by_cases h:∃i,b∈fp i
  ·obtain ⟨i,hi⟩:=h
   rw [(S.nw i b hi).2.2] at e;cases e
  ·rw [lg h];exact e
 refine ⟨s1,λb o e=>?_,S.len,λi d h=>?_⟩
 ·by_cases h:∃i,b∈fp i
  ·unfold fP at e
   rw [if_pos h] at e
   split at e
   ·next xs hx=>rw [hx];exact e
   ·next φ hx=>rw [hx];exact e
   ·cases e
  ·rw [lg h] at e;exact S.ex.sub _ _ e
 ·obtain ⟨v,hv,o⟩:=S.at_ i d h
  exact ⟨v,hv,o.Fn s1 λb hb u hu hx=>yU i hb hu hx⟩
theorem SIx.K8{G' H':Hp}(S:SIx Z B md ρ σ H G fp)(x:Ext (fP G H fp) H G' H'):Ext G H (mR G' fp) H'∧∀b xs,G' b=some (.tup xs)→mR G' fp b=some (.tup xs):=by
 obtain ⟨s1,s2,_⟩:=S.D8;refine ⟨⟨λb o e=>?_,λb o e=>?_,x.hh,λb hb hg=>?_⟩,λb xs e=>?_⟩
 ·have h:¬∃i,b∈fp i:=by
   rintro ⟨i,hi⟩;rw [(S.nw i b hi).2.2] at e;cases e
  unfold mR;rw [if_neg h];exact x.gg _ _ (s1 _ _ e)
 ·unfold mR at e
  split at e
  ·cases e
  ·exact x.sub _ _ e
 ·unfold mR
  split
  ·rfl
  ·next h=>exact x.off b hb (by rw [lg h];exact hg)
 ·have h:¬∃i,b∈fp i:=by
   rintro ⟨i,hi⟩;have hb:=(S.nw i b hi).2.1;cases hw:fP G H fp b with
   |none=>rw [x.off b hb hw] at e;cases e
   |some o=>
    have:=x.gg _ _ hw
    rw [e] at this;cases this;unfold fP at hw;rw [if_pos ⟨i,hi⟩] at hw
    split at hw<;>cases hw
  unfold mR;rw [if_neg h];exact e
theorem SIx.ev{t:aQ}{P:D→Prop}{Q:VK}(S:SIx Z B md ρ σ H G fp)(m:Bool)(h:t (oG md m ρ) P)
  (hq:∀d,P d→oM m d∧∀v G' H',SIx Z B md ρ σ H' G' fp→Ext G H G' H'→Dv Z G' v d→Q v H'):cJ Z t σ H Q:=by
 cases m with
 |false=>exact ⟨G,_,P,S.ex.sub,S.zH,h,λd hd v G' H' x dv=>(hq d hd).2 v G' H' (S.grow x) x dv⟩
 |true=>
  obtain ⟨s1,s2,e⟩:=S.D8;refine ⟨fP G H fp,_,P,s2,e,h,λd hd v G' H' x dv=>?_⟩;obtain ⟨x',k⟩:=S.K8 x;exact (hq d hd).2 v _ H' (S.grow x') x' (dv.jo k (hq d hd).1)
theorem SIx.IL{t:b6}{P:Bool→Prop}{Q:Bool→Hp→Prop}(S:SIx Z B md ρ σ H G fp)(h:t ρ P)(hq:∀b,P b→∀H',SIx Z B md ρ σ H' G fp→Q b H'):liftT Z t σ H Q:=
 ⟨H,ρ,P, .refl _,S.nH,h,λb hb G' H' x=>hq b hb H' (S.grow (Ext.all S.ex.sub x))⟩
theorem SIx.qu{i:Nat}{v:V}{d:D}(S:SIx Z B md ρ σ H G fp)(hm:md.getD i 0=0)(dv:Dv Z G v d):SIx Z B md (ρ.set i (some d)) (σ.set i (some v)) H G (λj=>if j=i then [] else fp j) where
 ex:=S.ex
 fl:=S.fl
 len:=by rw [eM,eM];exact S.len
 at_:=λj c h=>by
  by_cases z:i=j
  ·subst z
   by_cases hi:i<ρ.length
   ·rw [gO hi] at h
    cases h;exact ⟨v,gO (by rw [←S.len];exact hi),by rw [hm,if_pos rfl];exact ⟨dv,rfl⟩⟩
   ·rw [uZ (gQ hi),h8 (gQ hi)] at h;cases h
  ·rw [gP z] at h ⊢
   rw [if_neg (Ne.symm z)];exact S.at_ j c h
 nd:=λj=>by split;exact fW;exact S.nd j
 ap:=λj k b ne hj hk=>by
  split at hj
  ·cases hj
  ·split at hk
   ·cases hk
   ·exact S.ap j k b ne hj hk
 nw:=λj b hb=>by
  split at hb
  ·cases hb
  ·exact S.nw j b hb
theorem SIx.rO{i n:Nat}{v:V}{d:D}{f:List Addr}(S:SIx Z B md ρ σ H G fp)(hm:md.getD i 0=n)(o:Own Z G H n v d f)(nd:f.Nodup)(nw:∀b∈f,B.H₀ b=none∧H b≠none∧G b=none)(ap:∀b∈f,∀j,j≠i→b∉fp j):
  SIx Z B md (ρ.set i (some d)) (σ.set i (some v)) H G (λj=>if j=i then f else fp j) where
 ex:=S.ex
 fl:=S.fl
 len:=by rw [eM,eM];exact S.len
 at_:=λj c h=>by
  by_cases z:i=j
  ·subst z
   by_cases hi:i<ρ.length
   ·rw [gO hi] at h
    cases h;exact ⟨v,gO (by rw [←S.len];exact hi),by rw [hm,if_pos rfl];exact o⟩
   ·rw [uZ (gQ hi),h8 (gQ hi)] at h;cases h
  ·rw [gP z] at h ⊢
   rw [if_neg (Ne.symm z)];exact S.at_ j c h
 nd:=λj=>by split;exact nd;exact S.nd j
 ap:=λj k b ne hj hk=>by
  split at hj
  ·next z=>
   rw [if_neg (λw=>ne (z.trans w.symm))] at hk;exact ap b hj k (λw=>ne (z.trans w.symm)) hk
  ·next z=>
   split at hk
   ·exact ap b hk j z hj
   ·exact S.ap j k b ne hj hk
 nw:=λj b hb=>by
  split at hb
  ·exact nw b hb
  ·exact S.nw j b hb
noncomputable def plus(G H:Hp)(F:Addr→Prop):Hp:=λb=>open Classical in if F b then H b else G b
theorem iJ{F:Addr→Prop}{b:Addr}(h:F b):plus G H F b=H b:=by unfold plus;rw [if_pos h]
theorem e8{F:Addr→Prop}{b:Addr}(h:¬F b):plus G H F b=G b:=by unfold plus;rw [if_neg h]
theorem gk{F:Addr→Prop}(s:aO G H):aO (plus G H F) H:=λb o e=>by
 by_cases h:F b
 ·rw [iJ h] at e;exact e
 ·rw [e8 h] at e;exact s _ _ e
theorem cH{F:Addr→Prop}(s:aO G H):aO G (plus G H F):=λb o e=>by
 by_cases h:F b
 ·rw [iJ h];exact s _ _ e
 ·rw [e8 h];exact e
theorem SIx.N5{t:aQ}{P:D→Prop}{Q:VK}(S:SIx Z B md ρ σ H G fp)(h:t ρ P)(hq:∀d,P d→∀v G' H',Ext B.G₀ B.H₀ G' H'→Dv Z G' v d→Q v H'):cJ Z t σ H Q:=by
 let F:Addr→Prop:=λb=>∃i,b∈fp i
 have s:=S.ex.sub
 have x0:Ext B.G₀ B.H₀ (plus G H F) H:=⟨S.ex.gg.trans (cH s),gk s,S.ex.hh,λb hb hg=>by
  rw [e8 (λ⟨i,hi⟩=>hb (S.nw i b hi).1)];exact S.ex.off b hb hg⟩
 refine ⟨plus G H F,ρ,P,gk s,⟨S.len,λi d h=>?_⟩,h,λd hd v G' H' x dv=>hq d hd v G' H' (x0.trans x) dv⟩;obtain ⟨v,hv,o⟩:=S.at_ i d h;exact ⟨v,hv,o.dv (cH s) λb hb u e=>by rw [iJ ⟨i,hb⟩];exact e⟩
end
structure cv where
 nx:DN→Prop
 rt:D→Prop
 bk:DN→Prop:=λ_=>False
 ct:DN→Prop:=λ_=>False
abbrev bP:=cv→DN→Prop
structure Meets (Z:DC) (B:Bs) (md:List Nat) (rn:Nat) (E:cv) (Dn:Ends):Prop where
 nx:∀ρ,E.nx ρ→∀σ H,SI Z B md ρ σ H→Dn.nx σ H
 rt:∀d,E.rt d→∀v f G' H',Ext B.G₀ B.H₀ G' H'→Own Z G' H' rn v d f→f.Nodup→(∀b∈f,B.H₀ b=none∧H' b≠none∧G' b=none)→Dn.rt v H'
 bk:∀ρ,E.bk ρ→∀σ H,SI Z B md ρ σ H→Dn.bk σ H
 ct:∀ρ,E.ct ρ→∀σ H,SI Z B md ρ σ H→Dn.ct σ H
def kN(Z:DC)(md:List Nat)(rn:Nat)(t:bP):TS:=λDn σ H=>∃(B:Bs)(ρ:DN)(E:cv),SI Z B md ρ σ H∧t E ρ∧Meets Z B md rn E Dn
def DSt(Z:DC)(X:Cx)(md:List Nat)(rn:Nat)(st:Stmt)(t:bP):Prop:=PS X st (kN Z md rn t)
def DSs(Z:DC)(X:Cx)(md:List Nat)(rn:Nat)(C9:List Stmt)(t:bP):Prop:=jt X C9 (kN Z md rn t)
theorem PS.imp{X:Cx}{st:Stmt}{t t':TS}(h:PS X st t)(f:∀D σ H,t' D σ H→t D σ H):PS X st t':=λpins s σ H D I q=>h pins s σ H D I (f _ _ _ q)
theorem jt.imp{X:Cx}{st:List Stmt}{t t':TS}(h:jt X st t)(f:∀D σ H,t' D σ H→t D σ H):jt X st t':=λpins s σ H D I q=>h pins s σ H D I (f _ _ _ q)
section
variable {Z:DC} {X:Cx} {md:List Nat} {rn:Nat} {st:Stmt} {C9:List Stmt} {t u:bP} {e:Expr} {te:aQ} {pos:Pos}
def kD:bP:=λE ρ=>E.nx ρ
def qX(t u:bP):bP:=λE ρ=>t {E with nx:=u E} ρ
theorem aF:DSs Z X md rn [] kD:=uG.imp λD σ H ⟨B,ρ,E,S,h,M⟩=>M.nx _ h _ _ S
theorem ae(h1:DSt Z X md rn st t)(h2:DSs Z X md rn C9 u):DSs Z X md rn (st::C9) (qX t u):=
 (dU h1 h2).imp λD σ H ⟨B,ρ,E,S,h,M⟩=>⟨B,ρ,_,S,h,⟨λaz h' aI H' S'=>⟨B,az,E,S',h',M⟩,M.rt,M.bk,M.ct⟩⟩
theorem ah(h1:DSt Z X md rn st t):DSs Z X md rn [st] t:=qp h1
theorem jY:DSt Z X md rn st (λ_ _=>False):=yF.imp λD σ H ⟨B,ρ,E,S,h,M⟩=>h
def Ie(te:aQ):bP:=λE ρ=>te ρ E.rt
theorem aL(he:DE Z X e te):DSt Z X md 0 (.Return (some e) pos) (Ie te):=(tq he).imp λD σ H ⟨B,ρ,E,⟨G,fp,S⟩,h,M⟩=>S.N5 h λd hd v G' H' x dv=>M.rt d hd v [] G' H' x ⟨dv,rfl⟩ fW (λb hb=>by cases hb)
def Fc(i:Nat):bP:=λE ρ=>∃d,ρ[i]? =some (some d)∧E.rt d
theorem pJ(i:Nat){x:Str}{px:Pos}(hm:md.getD i 0=rn:=by rfl)(hi:X.N[i]? =some x:=by rfl)(hv:iS X.env.scope x:=by first|exact Or.inl rfl|exact Or.inr (Or.inl rfl) |exact Or.inr (Or.inr rfl))(hd:(x==("__debug__":Str))=false:=by decide)(cI:(x==("__classdict__":Str))=false:=by decide):
  DSt Z X md rn (.Return (some (.Name x px)) pos) (Fc i):=(tq (sY hi hv hd cI)).imp λD σ H ⟨B,ρ,E,⟨G,fp,S⟩,⟨d,hd,h⟩,M⟩=>by
 obtain ⟨v,hv,o⟩:=S.at_ i d hd;rw [hm] at o;exact ⟨v,hv,M.rt d h v (fp i) G H S.ex o (S.nd i) (S.nw i)⟩
def pA(c:b6)(t u:bP):bP:=λE ρ=>c ρ λb=>if b=true then t E ρ else u E ρ
theorem aX{c:Expr}{a b:List Stmt}{tc:b6}(hc:DT Z X c tc)(ha:DSs Z X md rn a t)(hb:DSs Z X md rn b u):DSt Z X md rn (.If c a b pos) (pA tc t u):=by
 refine (AQ hc ha hb).imp ?_;rintro D σ H ⟨B,ρ,E,⟨G,fp,S⟩,h,M⟩;refine S.IL h λb hb H' S'=>?_;cases b with
 |true=>exact cq ⟨B,ρ,E,⟨G,fp,S'⟩,(by simpa using hb),M⟩
 |false=>exact bX ⟨B,ρ,E,⟨G,fp,S'⟩,(by simpa using hb),M⟩
def tY(md:List Nat)(m:Bool)(i:Nat)(te:aQ):bP:=λE ρ=>te (oG md m ρ) λd=>oM m d∧E.nx (ρ.set i (some d))
theorem aG(m:Bool)(i:Nat){x:Str}{pos':Pos}(hN:X.N.Nodup)(he:DE Z X e te)(hm:md.getD i 0=0:=by rfl)(hi:X.N[i]? =some x:=by rfl)(hx:Loc X.env.scope x:=by first|exact Or.inl rfl|exact Or.inr rfl)(hs:swapsWith e (some (.Name x pos')) pos.line X.env=pure false:=by rfl)
  (hf:X.fn x=true∨X.env.scope.names.lookup x=some .local:=by first|exact .inl rfl|exact .inr rfl|assumption):DSt Z X md rn (.Assign [.Name x pos'] e pos) (tY md m i te):=by
 refine (fk hN hi hx he hs hf).imp ?_;rintro D σ H ⟨B,ρ,E,⟨G,fp,S⟩,h,M⟩;exact S.ev m h λd hd=>⟨hd.1,λv G' H' S' x dv=>M.nx _ hd.2 _ _ ⟨G',_,S'.qu hm dv⟩⟩
theorem mJ(i:Nat){x:Str}{px hZ:Pos}{tg iter elt:Expr}{ifs:List Expr}{scope:Scope}{NC:List Str}{src:List (Option Nat)}{wi:gT}{g:dB}{tt:b6}(hc:X.calm=true)(hN:X.N.Nodup)(c:bG X scope)(dS:b8 scope X.N src NC)(hi:DI Z X tg iter wi)
  (hg:∀ex s H,DG Z (dN X scope NC ex s H) tg g) (ht:∀ex s H,u7 Z (dN X scope NC ex s H) ifs tt) (he:∀ex s H,DE Z (dN X scope NC ex s H) elt te)
  (iY:swapsWith (.ListComp elt [⟨tg,iter,ifs,0⟩] scope pos) (some (.Name x px)) hZ.line X.env=pure true:=by rfl) (hm:md.getD i 0=0:=by rfl) (qM:X.N[i]? =some x:=by rfl) (hx:Loc X.env.scope x:=by first|exact Or.inl rfl|exact Or.inr rfl)
  (hf:X.fn x=true∨X.env.scope.names.lookup x=some .local:=by first|exact .inl rfl|exact .inr rfl|assumption)
  (hs:∀x,foldedSetIterable iter X.env x=pure x:=by intro _;rfl):DSt Z X md rn (.Assign [.Name x px] (.ListComp elt [⟨tg,iter,ifs,0⟩] scope pos) hZ) (tY md false i (E5 wi g tt te src)):=by
 refine (j7 hc hN qM hx c dS hi hg ht he iY hf hs).imp ?_;rintro D σ H ⟨B,ρ,E,⟨G,fp,S⟩,h,M⟩;refine xi σ H _ (S.ev false h λd hd=>⟨hd.1,λv G' H' S' x dv=>M.nx _ hd.2 _ _ ⟨G',_,S'.qu hm dv⟩⟩)
end
end L2
namespace L2
open PySem PySem.Spec PyProof.Rows
section
variable {Z:DC} {X:Cx} {B:Bs} {md:List Nat} {rn:Nat} {ρ:DN} {σ:St} {H G:Hp} {fp:Nat→List Addr}
def xh(Z:DC)(md:List Nat)(g:dB):TG:=λv σ H Q=>∃(B:Bs)(ρ:DN)(d:D)(P:DN→Prop)(G:Hp)(fp:Nat→List Addr),SIx Z B md ρ σ H G fp∧Dv Z G v d∧g d ρ P∧∀az,P az→∀aI zK,SIx Z B md az aI H G zK→Q aI H
def Ak(Z:DC)(md:List Nat)(g:ny):rZ:=λvs σ H Q=>∃(B:Bs)(ρ:DN)(ds:List D)(P:DN→Prop)(G:Hp)(fp:Nat→List Addr),SIx Z B md ρ σ H G fp∧au Z G vs ds∧g ds ρ P∧∀az,P az→∀aI zK,SIx Z B md az aI H G zK→Q aI H
def yV(Z:DC)(X:Cx)(md:List Nat)(e:Expr)(g:dB):Prop:=PG X e (xh Z md g)
def wV(Z:DC)(X:Cx)(md:List Nat)(es:List Expr)(g:ny):Prop:=tK X es (Ak Z md g)
theorem aM(i:Nat){x:Str}{pos:Pos}(hN:X.N.Nodup)(hm:md.getD i 0=0:=by rfl)(hi:X.N[i]? =some x:=by rfl)(hx:Loc X.env.scope x:=by first|exact Or.inl rfl|exact Or.inr rfl)(hf:X.fn x=true∨X.env.scope.names.lookup x=some .local:=by first|exact .inl rfl|exact .inr rfl|assumption):yV Z X md (.Name x pos) (lE i):=
 (uC hN hi hx hf).imp λv σ H Q ⟨B,ρ,d,P,G,fp,S,dv,h,q⟩=>q _ h _ _ (S.qu hm dv)
theorem gf:wV Z X md [] Fh:=uD.imp λv σ H Q ⟨B,ρ,ds,P,G,fp,S,dv,⟨h,p⟩,q⟩=>by
 subst h;cases dv;exact ⟨rfl,q _ p _ _ S⟩
theorem bS{e:Expr}{es:List Expr}{g:dB}{gs:ny}(h1:yV Z X md e g)(h2:wV Z X md es gs)(hs:(assignEach (e::es) X.env).map (·.2)=assign e X.env::(assignEach es X.env).map (·.2):=by rfl):wV Z X md (e::es) (BK g gs):=by
 refine (m8 h1 h2 hs).imp ?_;rintro v σ H Q ⟨B,ρ,ds,P,G,fp,S,dv,h,q⟩;cases dv with
 |nil=>exact h.elim
 |cons a as=>exact ⟨_,_,rfl,B,ρ,_,_,G,fp,S,a,h,λaz hp aI zK S'=>⟨B,az,_,P,G,zK,S',as,hp,q⟩⟩
theorem jZ(n:Nat){es:List Expr}{k:Nat}{pos:Pos}{gs:ny}(hc:X.calm=true)(h:wV Z X md es gs)(hn:(assignEach es X.env).length=n:=by rfl)(lM:(assignEach es X.env).findIdx? (·.1)=none:=by rfl):yV Z X md (.Tuple es k pos) (Fi n gs):=by
 refine (xr hc h hn lM).imp ?_;rintro v σ H Q ⟨B,ρ,d,P,G,fp,S,dv,h,q⟩;cases dv<;>first|exact h.elim|skip
 rename_i a xs ds ha es
 exact ⟨a,xs,rfl,ed.of (S.ex.sub _ _ ha),by rw [es.length];exact h.1,B,ρ,_,P,G,fp,S,es,h.2,q⟩
def jB(g:dB)(tb:bP)(E:cv):List D→DN→Prop
 | [],ρ=>E.nx ρ
 |x::xs,ρ=>g x ρ λbB=>tb {nx:=jB g tb E xs,ct:=jB g tb E xs,bk:=E.nx,rt:=E.rt} bB
def DZ(md:List Nat)(m:Bool)(wi:gT)(g:dB)(tb:bP):bP:=λE ρ=>wi (oG md m ρ) λds=>jB g tb E ds ρ
theorem rg{D':Ends}{J:It}{ds:List D}{g:dB}{tb:bP}{E:cv}(S:SIx Z B md ρ σ H G fp)(it:oV Z G J ds)(hd:jB g tb E ds ρ)(M:Meets Z B md rn E D'):
  ∃W:Nat→Nat→St→Hp→Prop,(∃m,W 0 m σ H)∧∀i m σ H,W i m σ H→
   (J.stop i H∧D'.nx σ H)∨(J.go i H∧∃N:St→Hp→Prop,(∀aI H',N aI H'→∃m',m'<m∧W (i+1) m' aI H')∧∀x H',J.yld i H x H'→xh Z md g x σ H' λgS H2=>kN Z md rn tb {D' with nx:=N,ct:=N,bk:=D'.nx} gS H2):=by
 let B1:Bs:={B with Gf:=G}
 have back:∀ρ σ H,SI Z B1 md ρ σ H→SI Z B md ρ σ H:=λρ σ H ⟨G2,vz,S2⟩=>⟨G2,vz,⟨S2.ex,S.fl.trans S2.fl,S2.len,S2.at_,S2.nd,S2.ap,S2.nw⟩⟩;have S1:SIx Z B1 md ρ σ H G fp:=⟨S.ex, .refl _,S.len,S.at_,S.nd,S.ap,S.nw⟩;refine ⟨λi m σ H=>m=ds.length-i∧i≤ds.length∧∃ρ,SI Z B1 md ρ σ H∧jB g tb E (ds.drop i) ρ,⟨_,rfl,fI _,ρ,⟨G,fp,S1⟩,hd⟩,?_⟩;rintro i m gS H2 ⟨rfl,hi,gR,⟨G2,vz,S2⟩,hf⟩;obtain ⟨go,stop,yld⟩:=it G2 H2 S2.fl S2.ex.sub i
 by_cases eC:i<ds.length
 ·refine .inr ⟨go eC,λaI H'=>∃az,SI Z B1 md az aI H'∧jB g tb E (ds.drop (i+1)) az,λaI H' n=>⟨ds.length-(i+1),by omega,rfl,eC,n⟩,λx H' y=>?_⟩
  obtain ⟨G3,d,x3,FG,dv⟩:=yld x H' eC y;rw [pG FG] at hf;refine ⟨B1,gR,d,_,G3,vz,S2.grow x3,dv,hf,λSj h4 jr N8 S4=>?_⟩;exact ⟨B1,Sj,_,⟨G3,N8,S4⟩,h4,⟨λaz h' aI H' s'=>⟨az,s',h'⟩,M.rt,λaz h' aI H' s'=>M.nx _ h' _ _ (back _ _ _ s'),λaz h' aI H' s'=>⟨az,s',h'⟩⟩⟩
 ·have e:ds.drop i= []:=xI (by omega)
  rw [e] at hf;exact .inl ⟨stop (by omega),M.nx _ hf _ _ (back _ _ _ ⟨G2,vz,S2⟩)⟩
variable {tg iter:Expr} {body:List Stmt} {wi:gT} {g:dB} {tb:bP} {pos:Pos}
theorem cL(hc:X.calm=true)(hp:PassesOwn (model X.prog X.w) X.A X.env X.xe)(hi:DI Z X tg iter wi)(hg:yV Z X md tg g)(hb:DSs Z X md rn body tb)
  (hs:∀x,foldedSetIterable iter X.env x=pure x:=by intro _;rfl):DSt Z X md rn (.For tg iter body [] pos) (DZ md false wi g tb):=by
 refine (xt hp hc hi hg hb hs).imp ?_;rintro D σ H ⟨B,ρ,E,⟨G,fp,S⟩,h,M⟩;exact ⟨G,_,_,S.ex.sub,S.zH,h,λds hd J G1 H1 x1 it=>rg (S.grow x1) it hd M⟩
def Ck(Z:DC)(wi:gT):TI:=λσ H R=>∃(G:Hp)(ρ:DN)(P:List D→Prop),aO G H∧b7 Z G σ ρ∧wi ρ P∧∀ds,P ds→∀J G' H',Ext G H G' H'→(∀G2,oV Z G2 J ds)→R J H'
def Es(Z:DC)(X:Cx)(tg e:Expr)(wi:gT):Prop:=PI X tg e (Ck Z wi)
theorem cz(hc:X.calm=true)(hp:PassesOwn (model X.prog X.w) X.A X.env X.xe)(hi:Es Z X tg iter wi)(hg:yV Z X md tg g)(hb:DSs Z X md rn body tb)
  (hs:∀x,foldedSetIterable iter X.env x=pure x:=by intro _;rfl):DSt Z X md rn (.For tg iter body [] pos) (DZ md true wi g tb):=by
 refine (xt hp hc hi hg hb hs).imp ?_;rintro D σ H ⟨B,ρ,E,⟨G,fp,S⟩,h,M⟩;exact ⟨H,ρ,_, .refl _,S.nH,h,λds hd J G1 H1 x1 it=>rg (S.grow (Ext.all S.ex.sub x1)) (it _) hd M⟩
variable {a b e:Expr} {ta te:aQ} {t:fu}
theorem bJ{p:Pos}(hg:Gl X "range")(hm:X.mg "range"=none)(ha:DA Z X [a] t)(hs:starEach [a] X.env= [(false,eval a X.env)]:=by rfl):Es Z X tg (.Call (.Name "range" p) [a] [] pos) (D2 t):=by
 refine (qm hg hm ha hs).imp ?_;rintro σ H Q ⟨G,ρ,P,s,en,h,q⟩;refine ⟨G,ρ,_,s,en,h,λds hd vs G1 H1 x1 dv=>?_⟩
 split at hd
 ·obtain ⟨_,rfl,a⟩:=dv.ofOne
  exact ⟨_,by rw [a.ofInt],hd.1.1,hd.1.2,q _ hd.2 _ G1 H1 x1 λ_=>mP 0 _⟩
 ·exact hd.elim
theorem vi{p:Pos}(hg:Gl X "range")(hm:X.mg "range"=none)(ha:DA Z X [a,b] t)(hs:starEach [a,b] X.env= [(false,eval a X.env),(false,eval b X.env)]:=by rfl)(iX:starEach [b] X.env= [(false,eval b X.env)]:=by rfl):Es Z X tg (.Call (.Name "range" p) [a,b] [] pos) (IF t):=by
 refine (wu hg hm ha hs iX).imp ?_;rintro σ H Q ⟨G,ρ,P,s,en,h,q⟩;refine ⟨G,ρ,_,s,en,h,λds hd vs G1 H1 x1 dv=>?_⟩
 split at hd
 ·obtain ⟨u1,u2,rfl,da,db⟩:=dv.wg
  exact ⟨_,_,by rw [da.ofInt,db.ofInt],hd.1,q _ hd.2 _ G1 H1 x1 λ_=>mP _ _⟩
 ·exact hd.elim
def wZ(c:b6)(tb:bP):bP:=λE ρ=>∃W:Nat→DN→Prop,(∃m,W m ρ)∧∀m ρ,W m ρ→c ρ λb=>if b=true then tb {nx:=λaz=>∃m',m'<m∧W m' az,ct:=λaz=>∃m',m'<m∧W m' az,bk:=E.nx,rt:=E.rt} ρ else E.nx ρ
theorem mK{c:Expr}{tc:b6}(hp:PassesOwn (model X.prog X.w) X.A X.env X.xe)(hc:DT Z X c tc)(hb:DSs Z X md rn body tb):DSt Z X md rn (.While c body [] pos) (wZ tc tb):=by
 refine (yG hp hc hb).imp ?_;rintro D σ H ⟨B,ρ,E,S,⟨W,⟨m0,w0⟩,turn⟩,M⟩;refine ⟨λm σ H=>∃ρ,SI Z B md ρ σ H∧W m ρ,⟨m0,ρ,S,w0⟩,?_⟩;rintro m gS H2 ⟨gR,⟨G2,vz,S2⟩,w2⟩;refine S2.IL (turn m gR w2) λb hb H' S'=>?_;cases b with
 |false=>exact bX (M.nx _ (by simpa using hb) _ _ ⟨G2,vz,S'⟩)
 |true=>
  refine cq ⟨λaI H'=>∃az m',m'<m∧SI Z B md az aI H'∧W m' az,λaI H' ⟨az,m',h1,h2,h3⟩=>⟨m',h1,az,h2,h3⟩,B,gR,_,⟨G2,vz,S'⟩,(by simpa using hb),?_⟩
  exact ⟨λaz ⟨m',h1,h2⟩ aI H' s'=>⟨az,m',h1,s',h2⟩,M.rt,M.nx,λaz ⟨m',h1,h2⟩ aI H' s'=>⟨az,m',h1,s',h2⟩⟩
abbrev eU:=DN→(List D→Prop)→Prop
def kM(Z:DC)(n:Nat)(t:eU):TE:=λσ H Q=>∃(G:Hp)(ρ:DN)(P:List D→Prop),aO G H∧b7 Z G σ ρ∧t ρ P∧∀ds,P ds→∀v f G' H',Ext G H G' H'→Own Z G' H' n v (.lst ds) f→f.Nodup→(∀b∈f,H b=none∧H' b≠none∧G' b=none)→Q v H'
def DF(Z:DC)(X:Cx)(n:Nat)(e:Expr)(t:eU):Prop:=PE X e (kM Z n t)
theorem Ext.side{p:Addr}{o:HO}{G1 H1:Hp}(x:Ext G H G1 H1)(hp:H1 p=none):Ext G H G1 (upd H1 p o):=
 ⟨x.gg,λb u e=>by rw [ax (aS e (x.sub.free hp))];exact x.sub _ _ e,x.hh.trans (aK hp _),x.off⟩
theorem gH{p:Addr}{xs:List V}{ds:List D}{G1 H1:Hp}(x:Ext G H G1 H1)(hp:H1 p=none)(dv:au Z G1 xs ds):
  Own Z G1 (upd H1 p (.lst xs)) 1 (.ref p) (.lst ds) [p]∧([p]:List Addr).Nodup∧∀b∈([p]:List Addr),H b=none∧(upd H1 p (.lst xs)) b≠none∧G1 b=none:=by
 refine ⟨.inl ⟨p,xs,ds,[],rfl,rfl,av,rfl,dv.own⟩,by simp,λb hb=>?_⟩
 have:b=p:=by simpa using hb
 subst this;exact ⟨x.hh.free hp,(by rw [av];exact λz=>nomatch z),x.sub.free hp⟩
def IS(t:fu):eU:=λρ P=>t ρ λds=>ds.length≤sizeLine∧P ds
theorem fY{es:List Expr}(h:DA Z X es t):DF Z X 1 (.List es pos) (IS t):=by
 refine (oR h).imp ?_;rintro σ H Q ⟨G,ρ,P,s,e,h,q⟩;refine ⟨G,ρ,_,s,e,h,?_⟩;rintro ds ⟨hl,hp⟩ vs G1 H1 x1 aV;refine ⟨by rw [aV.length];exact hl,λp jn=>?_⟩
 obtain ⟨o1,o2,o3⟩:=gH x1 jn aV;exact q _ hp _ _ _ _ (x1.side jn) o1 o2 o3
def zJ(te:aQ):eU:=λρ P=>te ρ λd=>match d with
 | .lst l=>P l
 | .tup l=>P l
 |_=>False
theorem lD{x:Str}{p:Pos}(hx:x="list")(hg:Gl X x)(hm:X.mg x=none)(hv:bootBuiltins x=some (.type "list"))(ha:DE Z X a ta)(hn:x≠"__name__":=by decide)(gB:(x==("__debug__":Str))=false:=by decide)
  (he:starEach [a] X.env=(false,eval a X.env)::starEach [] X.env:=by rfl) (dG:(backTo pos (starEach [] X.env)).any (·.1)=false:=by rfl):DF Z X 1 (.Call (.Name x p) [a] [] pos) (zJ ta):=by
 refine (ql kj hg hm hv (cC ha fj he) hn gB he dG).imp ?_;rintro σ H Q ⟨G,ρ,P,s,e,h,q⟩;refine ⟨G,ρ,_,s,e,h,λd hd v G1 H1 x1 dv=>?_⟩;cases dv<;>first|exact hd.elim|skip
 ·rename_i h e
  refine ⟨_,_,rfl, .inl (bE.of (x1.sub _ _ h)),λp hp=>?_⟩;obtain ⟨o1,o2,o3⟩:=gH x1 hp e;exact q _ hd _ _ _ _ (x1.side hp) o1 o2 o3
 ·rename_i h e
  refine ⟨_,_,rfl, .inr (ed.of (x1.sub _ _ h)),λp hp=>?_⟩;obtain ⟨o1,o2,o3⟩:=gH x1 hp e;exact q _ hd _ _ _ _ (x1.side hp) o1 o2 o3
def IT(t:fu)(tn:aQ):eU:=λρ P=>t ρ λds=>ds.length≤sizeLine∧tn ρ λk=>match k with
 | .int k=> -(2^63)≤k∧k<2^63∧ds.length*k.toNat≤sizeLine∧P (List.replicate k.toNat ds).flatten
 |_=>False
theorem BI{es:List Expr}{p2:Pos}(h:DA Z X es t)(hb:DE Z X b te):DF Z X 1 (.BinOp (.List es p2) .Mult b pos) (IT t te):=by
 refine (sX xp (oR h) hb).imp ?_;rintro σ H Q ⟨G,ρ,P,s,e,h,q⟩;refine ⟨G,ρ,_,s,e,h,?_⟩;rintro ds ⟨hl,hp⟩ vs G1 H1 x1 aV;refine ⟨by rw [aV.length];exact hl,λp jn=>?_⟩
 have x2:Ext G H (upd G1 p (.lst vs)) (upd H1 p (.lst vs)):=x1.trans (.new x1.sub jn);refine ⟨_,ρ,_,x2.sub,e.mono x2.gg,hp,λk hk v G3 H3 x3 dv=>?_⟩;cases dv<;>first|exact hk.elim|skip
 obtain ⟨k1,k2,k3,k4⟩:=hk;have IJ:au Z G3 vs ds:=aV.mono ((aK (x1.sub.free jn) _).trans x3.gg);refine ⟨_,_,_,rfl,rfl,x3.hh _ _ av,k1,k2,by rw [aV.length];exact k3,λp2 B4=>?_⟩
 have x:=x2.trans x3;obtain ⟨o1,o2,o3⟩:=gH x B4 (IJ.rep _);exact q _ k4 _ _ _ _ (x.side B4) o1 o2 o3
def BS(wi:gT)(g:dB)(tt:b6)(te:aQ)(src:List (Option Nat)):eU:=λρ P=>wi ρ λds=>jF g tt te ds (rP src ρ) [] λ_ out=>P out
theorem p4{src:List (Option Nat)}{tt:b6}:∀σ H Q,kM Z 1 (BS wi g tt te src) σ H Q→Bl (sM Z wi) (p5 Z g) (liftT Z tt) (cJ Z te) src σ H Q:=by
 rintro σ H Q ⟨G,ρ,P,s,en,h,q⟩;refine ⟨G,ρ,_,s,en,h,λds hd J G1 H1 x1 it Ad hA=>?_⟩;refine ⟨λi m gS H2=>m=ds.length-i∧i≤ds.length∧∃gR acc,CS Z G1 H1 Ad gR acc gS H2∧jF g tt te (ds.drop i) gR acc λ_ out=>P out,⟨_,rfl,fI _,_,[], .begin x1.sub hA ((en.mono x1.gg).src src),hd⟩,?_⟩;rintro i m gS H2 ⟨rfl,hi,gR,acc,c,hl⟩
 by_cases eC:i<ds.length
 ·obtain ⟨go,turn⟩:=rF hA G1 it i gR acc gS H2 c (λ_ s=>s) eC hl
  exact .inr ⟨go,_,λaI H' n=>⟨ds.length-(i+1),by omega,rfl,eC,n⟩,turn⟩
 ·have e:ds.drop i= []:=xI (by omega)
  rw [e] at hl;obtain ⟨G2,ys,s1,s2,s3,off,gA,pQ,aV,en⟩:=c;refine .inl ⟨(it G2 H2 s1 s2 i).2.1 (by omega),q _ hl (.ref Ad) [Ad] G2 H2 ⟨x1.gg.trans s1,s2,x1.hh.trans s3,λb hb hg=>off b (eI x1.hh hb) (x1.off b hb hg)⟩ (.inl ⟨Ad,ys,acc,[],rfl,rfl,pQ,rfl,aV.own⟩) (by simp) λb hb=>?_⟩
  have:b=Ad:=by simpa using hb
  subst this;exact ⟨x1.hh.free hA,(by rw [pQ];exact λz=>nomatch z),gA⟩
variable {elt:Expr} {ifs:List Expr} {scope:Scope} {NC:List Str} {src:List (Option Nat)} {tt:b6}
def zk(md:List Nat)(i:Nat)(t:eU):bP:=λE ρ=>t (ck md ρ) λds=>E.nx (ρ.set i (some (.lst ds)))
theorem mU{n i:Nat}{t:eU}{D':Ends}{E:cv}(hm:md.getD i 0=n)(S:SIx Z B md ρ σ H G fp)(h:t (ck md ρ) λds=>E.nx (ρ.set i (some (.lst ds))))(M:Meets Z B md rn E D'):kM Z n t σ H λv H'=>D'.nx (σ.set i (some v)) H':=by
 refine ⟨G,_,_,S.ex.sub,S.zH,h,λds hd v f G' H' x o nd nw=>?_⟩;refine M.nx _ hd _ _ ⟨G',_,(S.grow x).rO hm o nd (λb hb=>⟨S.ex.hh.free (nw b hb).1,(nw b hb).2⟩) λb hb j _ hj=>(S.nw j b hj).2.1 (nw b hb).1⟩
theorem cZ(i:Nat){n:Nat}{x:Str}{pos':Pos}{t:eU}(hN:X.N.Nodup)(he:DF Z X n e t)(hm:md.getD i 0=n:=by rfl)(hi:X.N[i]? =some x:=by rfl)(hx:Loc X.env.scope x:=by first|exact Or.inl rfl|exact Or.inr rfl)(hs:swapsWith e (some (.Name x pos')) pos.line X.env=pure false:=by rfl)
  (hf:X.fn x=true∨X.env.scope.names.lookup x=some .local:=by first|exact .inl rfl|exact .inr rfl|assumption):DSt Z X md rn (.Assign [.Name x pos'] e pos) (zk md i t):=by
 refine (fk hN hi hx he hs hf).imp ?_;rintro D σ H ⟨B,ρ,E,⟨G,fp,S⟩,h,M⟩;exact mU hm S h M
theorem qY(i:Nat){x:Str}{px hZ:Pos}(hc:X.calm=true)(hN:X.N.Nodup)(c:bG X scope)(dS:b8 scope X.N src NC)(hi:DI Z X tg iter wi)
  (hg:∀ex s H,DG Z (dN X scope NC ex s H) tg g) (ht:∀ex s H,u7 Z (dN X scope NC ex s H) ifs tt) (he:∀ex s H,DE Z (dN X scope NC ex s H) elt te)
  (iY:swapsWith (.ListComp elt [⟨tg,iter,ifs,0⟩] scope pos) (some (.Name x px)) hZ.line X.env=pure true:=by rfl) (hm:md.getD i 0=1:=by rfl) (qM:X.N[i]? =some x:=by rfl) (hx:Loc X.env.scope x:=by first|exact Or.inl rfl|exact Or.inr rfl)
  (hf:X.fn x=true∨X.env.scope.names.lookup x=some .local:=by first|exact .inl rfl|exact .inr rfl|assumption)
  (hs:∀x,foldedSetIterable iter X.env x=pure x:=by intro _;rfl):DSt Z X md rn (.Assign [.Name x px] (.ListComp elt [⟨tg,iter,ifs,0⟩] scope pos) hZ) (zk md i (BS wi g tt te src)):=by
 refine (j7 hc hN qM hx c dS hi hg ht he iY hf hs).imp ?_;rintro D σ H ⟨B,ρ,E,⟨G,fp,S⟩,h,M⟩;exact p4 σ H _ (mU hm S h M)
end
section
variable {Z:DC} {X:Cx} {B:Bs} {md:List Nat} {rn:Nat} {ρ:DN} {σ:St} {H G:Hp} {fp:Nat→List Addr} {a e k o:Expr} {ta te tk tp:aQ} {pos apos aP p2:Pos}
theorem SIx.mut{i:Nat}{v:V}{d':D}{b:Addr}{c:HO}(S:SIx Z B md ρ σ H G fp)(hi:σ[i]? =some (some v))(hb:b∈fp i)(o:Own Z G (upd H b c) (md.getD i 0) v d' (fp i)):SIx Z B md (ρ.set i (some d')) σ (upd H b c) G fp where
 ex:=by
  obtain ⟨h1,h2,h3⟩:=S.nw i b hb;exact ⟨S.ex.gg,λx u e=>by rw [ax (aS e h3)];exact S.ex.sub _ _ e,λx u e=>by rw [ax (aS e h1)];exact S.ex.hh _ _ e,S.ex.off⟩
 fl:=S.fl
 len:=by rw [eM];exact S.len
 at_:=λj w h=>by
  by_cases z:i=j
  ·subst z
   by_cases hl:i<ρ.length
   ·rw [gO hl] at h
    cases h;exact ⟨v,hi,o⟩
   ·rw [uZ (gQ hl),h8 (gQ hl)] at h;cases h
  ·rw [gP z] at h
   obtain ⟨u,hu,ow⟩:=S.at_ j w h;exact ⟨u,hu,ow.keep (.refl _) λx hx=>ax λq=>S.ap i j b z hb (by rw [←q];exact hx)⟩
 nd:=S.nd
 ap:=S.ap
 nw:=λj x hx=>by
  obtain ⟨h1,h2,h3⟩:=S.nw j x hx;refine ⟨h1,?_,h3⟩
  by_cases z:x=b
  ·rw [z,av];exact λq=>nomatch q
  ·rw [ax z];exact h2
theorem SIx.one{i:Nat}{d:D}(S:SIx Z B md ρ σ H G fp)(hm:md.getD i 0=1)(h:ρ[i]? =some (some d)):∃l xs ds,d= .lst ds∧σ[i]? =some (some (.ref l))∧H l=some (.lst xs)∧au Z G xs ds∧
  ∀fG dr,au Z G fG dr→SIx Z B md (ρ.set i (some (.lst dr))) σ (upd H l (.lst fG)) G fp:=by
 obtain ⟨v,hv,o⟩:=S.at_ i d h;rw [hm] at o;obtain ⟨l,xs,ds,fK,rfl,rfl,hl,hf,ol⟩:=o.one;obtain ⟨dv,rfl⟩:=ol.flat;refine ⟨l,xs,ds,rfl,hv,hl,dv,λfG dr jz=>S.mut hv (by rw [hf];simp) ?_⟩
 rw [hm,hf];exact .inl ⟨l,fG,dr,[],rfl,rfl,av,rfl,jz.own⟩
theorem bU.EA:∀{ys:List V}{fA:List D}{fK:List Addr}(p:Nat){dp:D},bU (Own Z G H 1) ys fA fK→fK.Nodup→fA[p]? =some dp→∃l xs ds,dp= .lst ds∧ys[p]? =some (.ref l)∧H l=some (.lst xs)∧au Z G xs ds∧l∈fK∧
  ∀fG dr,au Z G fG dr→bU (Own Z G (upd H l (.lst fG)) 1) ys (fA.set p (.lst dr)) fK
 |_,_,_,_,_, .nil,_,h=>by simp at h
 |_,_,_,0,dp, .cons (f:=f) (fs:=fs) a as,nd,h=>by
  simp at h;subst h;obtain ⟨l,xs,ds,fK,rfl,rfl,hl,hf,ol⟩:=a.one;obtain ⟨dv,rfl⟩:=ol.flat;subst hf;refine ⟨l,xs,ds,rfl,rfl,hl,dv,by simp,λfG dr jz=> .cons (.inl ⟨l,fG,dr,[],rfl,rfl,av,rfl,jz.own⟩) (as.imp λv d f hf r=>r.keep (.refl _) λb hb=>ax λz=>?_)⟩
  have:=(jj.mp nd).1
  exact this (by subst z;exact hf _ hb)
 |_,_,_,p+1,dp, .cons (f:=f) (fs:=fs) a as,nd,h=>by
  obtain ⟨Kj,sO,Rg⟩:=jS.mp nd;obtain ⟨l,xs,ds,e1,e2,e3,e4,e5,e6⟩:=bU.EA p (dp:=dp) as sO (by simpa using h)
  refine ⟨l,xs,ds,e1,by simpa using e2,e3,e4,dX _ e5,λfG dr jz=>?_⟩
  refine .cons (a.keep (.refl _) λb hb=>ax λz=>?_) (e6 fG dr jz);exact Rg b hb l e5 z
theorem SIx.two{i p:Nat}{fA:List D}{dp:D}(S:SIx Z B md ρ σ H G fp)(hm:md.getD i 0=2)(h:ρ[i]? =some (some (.lst fA)))(hp:fA[p]? =some dp):∃T ys l xs ds,dp= .lst ds∧σ[i]? =some (some (.ref T))∧H T=some (.lst ys)∧ys.length=fA.length∧ys[p]? =some (.ref l)∧H l=some (.lst xs)∧au Z G xs ds∧
  ∀fG dr,au Z G fG dr→SIx Z B md (ρ.set i (some (.lst (fA.set p (.lst dr))))) σ (upd H l (.lst fG)) G fp:=by
 obtain ⟨v,hv,o⟩:=S.at_ i _ h;rw [hm] at o;obtain ⟨T,ys,NV,fK,rfl,e0,hT,hf,ol⟩:=o.lst;cases e0;have nd:=S.nd i;rw [hf] at nd;obtain ⟨nT,sO⟩:=jj.mp nd;obtain ⟨l,xs,ds,e1,e2,e3,e4,e5,e6⟩:=bU.EA p ol sO hp;refine ⟨T,ys,l,xs,ds,e1,hv,hT,ol.length,e2,e3,e4,λfG dr jz=>S.mut hv (by rw [hf];exact fJ _ e5) ?_⟩
 rw [hm,hf];exact .inl ⟨T,ys,_,fK,rfl,rfl,by rw [ax (λz=>nT (by rw [z];exact e5))];exact hT,rfl,e6 fG dr jz⟩
theorem ty_list{K:PySem.W.Frag}{l:Addr}{xs:List V}(h:H l=some (.lst xs)):Di K "list" (.ref l) H:= .inl ⟨rfl,_,bE.of h⟩
def DX(md:List Nat)(m:Bool)(i:Nat)(te:aQ):bP:=λE ρ=>∃ds,ρ[i]? =some (some (.lst ds))∧te (oG md m ρ) λd=>oM m d∧ds.length<sizeLine∧E.nx (ρ.set i (some (.lst (ds++ [d]))))
theorem g7(m:Bool)(i:Nat){x:Str}{px:Pos}(he:DE Z X e te)(hm:md.getD i 0=1:=by rfl)(hi:X.N[i]? =some x:=by rfl)(hv:iS X.env.scope x:=by first|exact Or.inl rfl|exact Or.inr (Or.inl rfl) |exact Or.inr (Or.inr rfl))(hd:(x==("__debug__":Str))=false:=by decide)(cI:(x==("__classdict__":Str))=false:=by decide)
  (cw:attributeBase (.Name x px) "append" X.env (eval (.Name x px) X.env)=eval (.Name x px) X.env:=by rfl)
  (iF:((backTo aP (starEach [e] X.env)).all (λx=>!x.1)&&(backToKw aP (keywordEach [] X.env)).all (λx=>x.1.isSome)&&decide (([e]:List Expr).length+([]:List Keyword).length+(if ([]:List Keyword).isEmpty then 0 else 1)<30))=true:=by rfl)
  (cg:(apos.endLine==aP.line)=true:=by rfl) (hs:starEach [e] X.env=(false,eval e X.env)::starEach [] X.env:=by rfl) (df:(backTo aP (starEach [] X.env)).any (·.1)=false:=by rfl)
  (iY:swapsWith (.Call (.Attribute (.Name x px) "append" apos) [e] [] aP) none pos.line X.env=pure false:=by rfl):
  DSt Z X md rn (.Expr (.Call (.Attribute (.Name x px) "append" apos) [e] [] aP) pos) (DX md m i te):=by
 refine (jH (sV PySem.F.plainAttrs_list PySem.F.slot_list_append PySem.F.type_list_append kP (pv i hi hv hd cI) (cC he fj hs) cw iF cg hs df) iY).imp ?_;rintro D σ H ⟨B,ρ,E,⟨G,fp,S⟩,⟨ds,h1,h⟩,M⟩;obtain ⟨l,xs,_,_,e2,e3,_⟩:=S.one hm h1;refine ⟨_,e2,ty_list e3,S.ev m h λd hd=>⟨hd.1,λv G' H' S' x dv=>?_⟩⟩;obtain ⟨_,h2,h3⟩:=hd;obtain ⟨l',fG,dr,e1,gW,sr,aV,put⟩:=S'.one hm h1;cases e1;rw [e2] at gW;cases gW;exact ⟨l,fG,v,rfl,rfl,sr,by rw [aV.length];exact h2,M.nx _ h3 _ _ ⟨G',fp,put _ _ (aV.snoc dv)⟩⟩
theorem r8{α:Type}{xs:List α}{i:Int}{j n:Nat}{v:α}(hn:xs.length=n)(h:ee n i=some j)(e:xs[j]? =some v):cX xs i=some v:=by unfold cX;rw [hn,h];exact e
def BE(md:List Nat)(m:Bool)(i:Nat)(tk te:aQ):bP:=λE ρ=>te (oG md m ρ) λd=>oM m d∧∃ds,ρ[i]? =some (some (.lst ds))∧tk ρ λkk=>∃k j,kk= .int k∧ee ds.length k=some j∧E.nx (ρ.set i (some (.lst (ds.set j d))))
theorem gd(m:Bool)(i:Nat){x:Str}{px ps:Pos}(hk:DE Z X k tk)(he:DE Z X e te)(hm:md.getD i 0=1:=by rfl)(hi:X.N[i]? =some x:=by rfl)(hv:iS X.env.scope x:=by first|exact Or.inl rfl|exact Or.inr (Or.inl rfl) |exact Or.inr (Or.inr rfl))(hd:(x==("__debug__":Str))=false:=by decide)(cI:(x==("__classdict__":Str))=false:=by decide)
  (ha:∀v,assign (.Subscript (.Name x px) k ps) X.env v=(do
   let ov ←holding [v] (eval (.Name x px) X.env)
   let iv ←holding [v,ov] (eval k X.env)
   standAt ps
   holding [v,ov,iv] (setItem ov iv v)
   release [v,ov,iv] []):=by intro _;rfl)
  (hs:swapsWithSole [.Subscript (.Name x px) k ps] e pos.line X.env=pure false:=by rfl) (hw:swappedStores [.Subscript (.Name x px) k ps] e X.env=pure none:=by rfl)
  (h1:(assignEach [.Subscript (.Name x px) k ps] X.env).map (·.2)= [assign (.Subscript (.Name x px) k ps) X.env]:=by rfl):DSt Z X md rn (.Assign [.Subscript (.Name x px) k ps] e pos) (BE md m i tk te):=by
 refine (tj he (oS (pv i hi hv hd cI) hk set_list ha) hs hw h1).imp ?_;rintro D σ H ⟨B,ρ,E,⟨G,fp,S⟩,h,M⟩;refine S.ev m h λd hd=>⟨hd.1,λv G' H' S' x dv=>?_⟩;obtain ⟨_,ds,h1,h⟩:=hd;obtain ⟨l,xs,_,_,e2,e3,_⟩:=S'.one hm h1;refine ⟨_,e2,S'.ev true h ?_⟩;rintro _ ⟨k,j,rfl,hj,h3⟩;refine ⟨rfl,λv1 G1 H1 S1 x1 vt=>?_⟩;cases vt;obtain ⟨l',fG,dr,e1,gW,sr,aV,put⟩:=S1.one hm h1;cases e1;rw [e2] at gW;cases gW;exact ⟨l,fG,k,j,rfl,rfl,sr,by rw [aV.length];exact hj,M.nx _ h3 _ _ ⟨G1,fp,put _ _ (aV.set (dv.mono x1.gg) j)⟩⟩
def Ib(md:List Nat)(i j:Nat):bP:=λE ρ=>∃ds d,ρ[j]? =some (some (.lst (ds++ [d])))∧E.nx ((ρ.set j (some (.lst ds))).set i (some d))
theorem w9(i j:Nat){x y:Str}{px py:Pos}(hN:X.N.Nodup)(hm:md.getD i 0=0:=by rfl)(yk:md.getD j 0=1:=by rfl)(hi:X.N[i]? =some x:=by rfl)(hx:Loc X.env.scope x:=by first|exact Or.inl rfl|exact Or.inr rfl)
  (hj:X.N[j]? =some y:=by rfl) (hv:iS X.env.scope y:=by first|exact Or.inl rfl|exact Or.inr (Or.inl rfl) |exact Or.inr (Or.inr rfl)) (hd:(y==("__debug__":Str))=false:=by decide) (cI:(y==("__classdict__":Str))=false:=by decide)
  (cw:attributeBase (.Name y py) "pop" X.env (eval (.Name y py) X.env)=eval (.Name y py) X.env:=by rfl) (cg:(apos.endLine==aP.line)=true:=by rfl)
  (hs:swapsWith (.Call (.Attribute (.Name y py) "pop" apos) [] [] aP) (some (.Name x px)) pos.line X.env=pure false:=by rfl)
  (hf:X.fn x=true∨X.env.scope.names.lookup x=some .local:=by first|exact .inl rfl|exact .inr rfl|assumption):DSt Z X md rn (.Assign [.Name x px] (.Call (.Attribute (.Name y py) "pop" apos) [] [] aP) pos) (Ib md i j):=by
 refine (fk hN hi hx (xq PySem.F.plainAttrs_list PySem.F.slot_list_pop PySem.F.type_list_pop Cn (pv j hj hv hd cI) cw cg) hs hf).imp ?_;rintro D σ H ⟨B,ρ,E,⟨G,fp,S⟩,⟨ds,d,h1,h⟩,M⟩;obtain ⟨l,xs,dr,e1,e2,e3,aV,put⟩:=S.one yk h1;cases e1;have hl:xs.length=ds.length+1:=by rw [aV.length];simp
 obtain ⟨v,z8,dv⟩:=aV.get (i:=xs.length-1) (d:=d) (by rw [hl];simp)
 refine ⟨_,e2,ty_list e3,l,xs,v,rfl,rfl,e3,z8,M.nx _ h _ _ ⟨G,_,(put xs.dropLast ds ?_).qu hm dv⟩⟩
 have:=aV.take ds.length
 rw [List.take_left'] at this
 ·rw [List.dropLast_eq_take,hl];exact this
 ·rfl
theorem SIx.CZ{j:Nat}{d:D}(S:SIx Z B md ρ σ H G fp)(h:ρ[j]? =some (some d)):∃v,σ[j]? =some (some v)∧Dv Z (plus G H λb=>b∈fp j) v d∧SIx Z B md (ρ.set j none) σ H (plus G H λb=>b∈fp j) (λk=>if k=j then [] else fp k):=by
 have s:=S.ex.sub;obtain ⟨v,hv,o⟩:=S.at_ j d h;refine ⟨v,hv,o.dv (cH s) λb hb u e=>by rw [iJ hb];exact e,?_⟩
 refine ⟨⟨S.ex.gg.trans (cH s),gk s,S.ex.hh,λb hb hg=>?_⟩,S.fl.trans (cH s),by rw [eM];exact S.len,λk c hk=>?_,λk=>by split;exact fW;exact S.nd k,λk k' b ne hk iG=>?_,λk b hb=>?_⟩
 ·rw [e8 (λz=>hb (S.nw j b z).1)];exact S.ex.off b hb hg
 ·by_cases z:j=k
  ·subst z
   by_cases hl:j<ρ.length
   ·rw [gO hl] at hk;cases hk
   ·rw [uZ (gQ hl),h8 (gQ hl)] at hk;cases hk
  ·rw [gP z] at hk
   obtain ⟨u,hu,ow⟩:=S.at_ k c hk;exact ⟨u,hu,by rw [if_neg (Ne.symm z)];exact ow.keep (cH s) λ_ _=>rfl⟩
 ·split at hk
  ·cases hk
  ·split at iG
   ·cases iG
   ·exact S.ap k k' b ne hk iG
 ·split at hb
  ·cases hb
  ·next z=>
   obtain ⟨h1,h2,h3⟩:=S.nw k b hb;exact ⟨h1,h2,by rw [e8 (λw=>S.ap k j b z hb w)];exact h3⟩
def EZ(md:List Nat)(i j:Nat):bP:=λE ρ=>∃ds d,ρ[i]? =some (some (.lst ds))∧ρ[j]? =some (some d)∧ds.length<sizeLine∧E.nx ((ρ.set j none).set i (some (.lst (ds++ [d]))))
theorem zB(i j:Nat){x y:Str}{px py:Pos}(ij:i≠j:=by decide)(hm:md.getD i 0=1:=by rfl)(hj:X.N[j]? =some y:=by rfl)(O1:iS X.env.scope y:=by first|exact Or.inl rfl|exact Or.inr (Or.inl rfl) |exact Or.inr (Or.inr rfl))(Ou:(y==("__debug__":Str))=false:=by decide)(Jp:(y==("__classdict__":Str))=false:=by decide)(hi:X.N[i]? =some x:=by rfl)(hv:iS X.env.scope x:=by first|exact Or.inl rfl|exact Or.inr (Or.inl rfl) |exact Or.inr (Or.inr rfl))(hd:(x==("__debug__":Str))=false:=by decide)(cI:(x==("__classdict__":Str))=false:=by decide)
  (cw:attributeBase (.Name x px) "append" X.env (eval (.Name x px) X.env)=eval (.Name x px) X.env:=by rfl)
  (iF:((backTo aP (starEach [.Name y py] X.env)).all (λx=>!x.1)&&(backToKw aP (keywordEach [] X.env)).all (λx=>x.1.isSome)&&decide (([.Name y py]:List Expr).length+([]:List Keyword).length+(if ([]:List Keyword).isEmpty then 0 else 1)<30))=true:=by rfl)
  (cg:(apos.endLine==aP.line)=true:=by rfl) (hs:starEach [.Name y py] X.env=(false,eval (.Name y py) X.env)::starEach [] X.env:=by rfl) (df:(backTo aP (starEach [] X.env)).any (·.1)=false:=by rfl)
  (iY:swapsWith (.Call (.Attribute (.Name x px) "append" apos) [.Name y py] [] aP) none pos.line X.env=pure false:=by rfl):
  DSt Z X md rn (.Expr (.Call (.Attribute (.Name x px) "append" apos) [.Name y py] [] aP) pos) (EZ md i j):=by
 refine (jH (sV PySem.F.plainAttrs_list PySem.F.slot_list_append PySem.F.type_list_append kP (pv i hi hv hd cI) (cC (pv j hj O1 Ou Jp) fj hs) cw iF cg hs df) iY).imp ?_;rintro D σ H ⟨B,ρ,E,⟨G,fp,S⟩,⟨ds,d,h1,h2,hz,h⟩,M⟩;obtain ⟨v,z8,dv,S'⟩:=S.CZ h2;have Oc:(ρ.set j none)[i]? =some (some (.lst ds)):=by rw [gP (Ne.symm ij)];exact h1
 obtain ⟨l,xs,dr,e1,e2,e3,aV,put⟩:=S'.one hm Oc;cases e1;exact ⟨_,e2,ty_list e3,_,z8,l,xs,v,rfl,rfl,e3,by rw [aV.length];exact hz,M.nx _ h _ _ ⟨_,_,put _ _ (aV.snoc dv)⟩⟩
end
structure GR (mg:Str→Option Value):Prop where
 len:mg "len"=none
 range:mg "range"=none
 max:mg "max"=none
 min:mg "min"=none
 enumerate:mg "enumerate"=none
 zip:mg "zip"=none
 sorted:mg "sorted"=none
 all:mg "all"=none
 isinstance:mg "isinstance"=none
 int:mg "int"=none
 bool:mg "bool"=none
 list:mg "list"=none
 tuple:mg "tuple"=none
 sum:mg "sum"=none
 reversed:mg "reversed"=none
theorem BA:bootBuiltins "max"=some (.builtin "max"):=by decide+kernel
theorem tP:bootBuiltins "bool"=some (.type "bool"):=by decide+kernel
theorem Bz:bootBuiltins "int"=some (.type "int"):=by decide+kernel
theorem dD:bootBuiltins "list"=some (.type "list"):=by decide+kernel
theorem vf:bootBuiltins "sorted"=some (.builtin "sorted"):=by decide+kernel
theorem aZ:bootBuiltins "len"=some (.builtin "len"):=by decide+kernel
section
variable {P:Program} {w:World} {K:PySem.W.Frag} {mg:Str→Option Value} {base:Heap} {Z:DC}
def oT(N:List Str)(ds:List D):DN:=ds.map some++List.replicate (N.length-ds.length) none
def eE(Z:DC)(n:Nat)(sd:cp):Sp:=λvs H Q _=>∃(G:Hp)(ds:List D)(P:D→Prop),aO G H∧au Z G vs ds∧sd ds P∧∀d,P d→∀v f G' H',Ext G H G' H'→Own Z G' H' n v d f→f.Nodup→(∀b∈f,H b=none∧H' b≠none∧G' b=none)→Q v H'
theorem Own.pure{n:Nat}{v:V}{d:D}{f:List Addr}{G H G' H':Hp}(x:Ext G H G' H')(o:Own Z G' H' n v d f)(nw:∀b∈f,H b=none∧H' b≠none∧G' b=none):∃G2,Ext G H G2 H'∧Dv Z G2 v d:=by
 refine ⟨plus G' H' λb=>b∈f,⟨x.gg.trans (cH x.sub),gk x.sub,x.hh,λb hb hg=>?_⟩,o.dv (cH x.sub) λb hb u e=>by rw [iJ hb];exact e⟩
 rw [e8 (λz=>hb (nw b z).1)];exact x.off b hb hg
theorem Bc{n:Nat}{sd:cp}:∀vs H Q E,aU Z sd vs H Q E→eE Z n sd vs H Q E:=by
 rintro vs H Q E ⟨G,ds,P,s,dv,h,q⟩;exact ⟨G,ds,P,s,dv,h,λd hd v f G' H' x o nd nw=>let ⟨G2,x2,so⟩:=o.pure x nw;q d hd v G2 H' x2 so⟩
theorem iE(rn:Nat){x qual:Str}{st:Stmt}{f:Addr}{fd:FuncData}{N ps:List Str}{k:Nat}{sd:cp}(F:qH K x qual st f fd)(S:aJ N ps (ar st))(md:List Nat)(FR:∀i,i<ps.length→md.getD i 0=0)(len:∀ds P,sd ds P→ds.length=ps.length)
  (kJ:∀(bg:Value)(A:Around)(outer:List Env)(s:Shared)(H:Hp)(E:XK)(ds:List D)(R:D→Prop),bI k (A.deeper (envOfC qual (ar st) s.heap.objs.size f bg))→sd ds R→
   ∃t,DSs Z (nF bQ P w K mg base N qual (ar st) f bg A outer s H E).qa md rn (dE st) t∧t {nx:=λ_=>rn=0∧R .aT,rt:=R} (oT N ds)):FnOk P w K mg base bQ (k+1) f fd ps (eE Z rn sd):=by
 refine F.ok S (λvs H Q E h=>?_) (λbg A outer s H vs Q E hr h=>?_)
 ·obtain ⟨G,ds,R,s,dv,h,q⟩:=h
  rw [dv.length];exact len _ _ h
 obtain ⟨G,ds,R,s0,dv,h,q⟩:=h;have JH:=q;obtain ⟨t,ht,hq⟩:=kJ bg A outer s H E ds R hr h;have hl:=len _ _ h;refine ⟨_,ht,⟨G,H,G⟩,_,_,⟨G,λ_=> [],?_⟩,hq,⟨λρ JO aI H' ⟨G',fp,S'⟩=>q _ JO.2 _ [] G' H' S'.ex (by rw [JO.1];exact ⟨.aT,rfl⟩) fW (λb hb=>by cases hb),JH,λ_ z=>z.elim,λ_ z=>z.elim⟩⟩
 refine ⟨.refl s0, .refl _,by unfold oT start;simp [dv.length],λi d hi=>?_,λ_=>fW,(λ_ _ _ _ z=>by cases z),(λ_ _ z=>by cases z)⟩
 unfold oT at hi
 have Jz:i<ds.length:=by
  apply Classical.byContradiction;intro z;rw [jh (by simpa using gQ z),rT] at hi
  split at hi<;>cases hi
 rw [iQ (by simpa using Jz),cU] at hi
 have jC:ds[i]? =some d:=by
  cases z:ds[i]? with
  |none=>rw [z] at hi;cases hi
  |some d'=>rw [z] at hi;cases hi;rfl
 obtain ⟨v,hv,jz⟩:=dv.get jC;refine ⟨v,?_,by rw [FR i (by omega)];exact ⟨jz,rfl⟩⟩
 unfold start;rw [iQ (by simpa [dv.length] using Jz),cU,hv];rfl
theorem bc{x qual:Str}{st:Stmt}{f:Addr}{fd:FuncData}{N ps:List Str}{k:Nat}{sd:cp}(F:qH K x qual st f fd)(S:aJ N ps (ar st))(md:List Nat)(FR:∀i,i<ps.length→md.getD i 0=0)(len:∀ds P,sd ds P→ds.length=ps.length)
  (kJ:∀(bg:Value)(A:Around)(outer:List Env)(s:Shared)(H:Hp)(E:XK)(ds:List D)(R:D→Prop),bI k (A.deeper (envOfC qual (ar st) s.heap.objs.size f bg))→sd ds R→
   ∃t,DSs Z (nF bQ P w K mg base N qual (ar st) f bg A outer s H E).qa md 0 (dE st) t∧t {nx:=λ_=>0=0∧R .aT,rt:=R} (oT N ds)):FnOk P w K mg base bQ (k+1) f fd ps (aU Z sd):=
 (iE 0 F S md FR len λbg A outer s H E ds R hr h=>let ⟨t,a,b⟩:=kJ bg A outer s H E ds R hr h;⟨t,a,b⟩).imp Bc
end
section
variable {Z:DC} {X:Cx} {a b c e o:Expr} {ta tb te:aQ} {t:fu} {es:List Expr} {pos apos:Pos}
def EB:cp:=λds P=>∃i j,ds= [.int i, .int j]∧P (.int (if j>i then j else i))
theorem Br{G:Hp}{vs:List V}{i j:Int}(h:au Z G vs [.int i, .int j]):vs= [.int i, .int j]:=by
 cases h with
 |cons a as=>
  cases as with
  |cons b bs=>cases bs;cases a;cases b;rfl
theorem zc(hc:X.calm=true):dJ X (.builtin "max") (kL Z EB):=by
 refine (vg hc).imp ?_;rintro xs H Q ⟨G,ds,P,s,dv,⟨i,j,rfl,h⟩,q⟩;exact ⟨i,j,Br dv,q _ h _ G H (.refl s) (.int _)⟩
def pairD(k:Nat×Nat):D:= .tup [.int (k.1:Nat), .int (k.2:Nat)]
def BC(ta tb:aQ):aQ:=λρ P=>ta ρ λd=>∃l,d= .lst l∧tb ρ λy=>bY y=true∧l.all bY=true∧∃(j:Nat)(z:D),l[j]? =some z∧fS z y=true∧(∀(m:Nat) z,m<j→l[m]? =some z→fS z y=false)∧P (.int (j:Nat))
theorem mH{aP:Pos}(ho:DE Z X o ta)(he:DE Z X e tb)
  (cw:attributeBase o "index" X.env (eval o X.env)=eval o X.env:=by rfl)
  (iF:((backTo aP (starEach [e] X.env)).all (λx=>!x.1)&&(backToKw aP (keywordEach [] X.env)).all (λx=>x.1.isSome)&&decide (([e]:List Expr).length+([]:List Keyword).length+(if ([]:List Keyword).isEmpty then 0 else 1)<30))=true:=by rfl)
  (cg:(apos.endLine==aP.line)=true:=by rfl) (hs:starEach [e] X.env=(false,eval e X.env)::starEach [] X.env:=by rfl) (df:(backTo aP (starEach [] X.env)).any (·.1)=false:=by rfl):
  DE Z X (.Call (.Attribute o "index" apos) [e] [] aP) (BC ta tb):=by
 refine (sV PySem.F.plainAttrs_list PySem.F.slot_list_index PySem.F.type_list_index yw ho (cC he fj hs) cw iF cg hs df).imp ?_;rintro σ H Q ⟨G,ρ,P,s,en,h,q⟩;refine ⟨G,ρ,_,s,en,h,?_⟩;rintro _ ⟨l,rfl,hd⟩ v G1 H1 x1 dv;cases dv with
 | @lst p xs ds hp e=>
  refine ⟨ty_list (x1.sub _ _ hp),G1,ρ,_,x1.sub,en.mono x1.gg,hd,λy hy u G2 H2 x2 du=>?_⟩;obtain ⟨h1,h2,j,z,h3,h4,h5,h6⟩:=hy;have e2:=e.mono x2.gg;obtain ⟨w,hw,dw⟩:=e2.get h3;refine ⟨p,xs,u,j,w,rfl,rfl,x2.hh _ _ (x1.sub _ _ hp),by rw [lG du];exact h1,by rw [g9 e2];exact h2,hw,by rw [sv dw du];exact h4,λm z' hm hz=>?_,q _ h6 _ G2 H2 (x1.trans x2) (.int _)⟩
  obtain ⟨d',jC,jz⟩:=e2.uc hz;rw [sv jz du];exact h5 m d' hm jC
end
structure y2 (Z:DC):Prop where
 cl:qG Z.K Z.C
 nR:iR Z.K Z.C "rows"
section
variable {Z:DC} {X:Cx} {a b c e o:Expr} {ta tb te:aQ} {t:fu} {es:List Expr} {pos apos:Pos}
def Fd(ta:aQ):aQ:=λρ P=>ta ρ λd=>∃w,d= .iO w∧P (aC w)
theorem zw(T:y2 Z)(ha:DE Z X o ta)(eK:X.K=Z.K:=by rfl)(hb:attributeBase o "rows" X.env (eval o X.env)=eval o X.env:=by rfl):DE Z X (.Attribute o "rows" apos) (Fd ta):=by
 refine (CH ha hb).imp ?_;rintro σ H Q ⟨G,ρ,P,s,en,h,q⟩;refine ⟨G,ρ,_,s,en,h,?_⟩;rintro _ ⟨w,rfl,hd⟩ v G1 H1 x1 dv;cases dv with
 | @iO p dx R w hp hr g h1 h2=>exact ⟨p,Z.C,dx,_, .ref R,rfl,x1.sub _ _ hp,by rw [eK];exact T.cl,by rw [eK];exact T.nR,rfl,q _ hd _ G1 H1 x1 hr⟩
def zh(sd:cp)(ta:aQ)(t:fu):aQ:=λρ P=>ta ρ λd=>∃w,d= .iO w∧t ρ λds=>sd (.iO w::ds) P
theorem yr{m:Str}{sd:cp}(hm:([("rows",V.ref 0)]:List (Str×V)).lookup m=none):∀σ H Q,cJ Z (zh sd ta t) σ H Q→Bm Z.C m (aU Z sd) [] E0 (cJ Z ta) (vX Z t) σ H Q:=by
 rintro σ H Q ⟨G,ρ,P,s,en,h,q⟩;refine ⟨G,ρ,_,s,en,h,?_⟩;rintro _ ⟨w,rfl,hd⟩ v G1 H1 x1 dv;have NW:=dv;cases dv with
 | @iO p dx R w hp hr g h1 h2=>
  refine ⟨p,dx,_,rfl,x1.sub _ _ hp,?_,G1,ρ,_,x1.sub,en.mono x1.gg,hd,λds yf vs G2 H2 x2 aV=>?_⟩
  ·have hz:(m==("rows":Str))=false:=by
    cases z:(m==("rows":Str)) with
    |false=>rfl
    |true=>simp [List.lookup,z] at hm
   simp [List.lookup,hz]
  ·show aU Z sd (V.ref p::(vs++ [])) H2 Q E0
   rw [mz];exact ⟨G2,_,P,x2.sub, .cons (NW.mono x2.gg) aV,yf,λd hd v G3 H3 x3 NX=>q d hd v G3 H3 ((x1.trans x2).trans x3) NX⟩
variable {sd:cp} {k:Nat} {f:Addr} {fd:FuncData} {ps:List Str} {m:Str}
theorem xX{pl:Sem Bool}(T:y2 Z)(ho:DE Z X o ta)(hm:Meth Z.K Z.C m f)(F:FnOk X.prog X.w X.K X.mg X.base bQ k f fd ps (aU Z sd))(hr:bI k X.A)(hb:Binds X.K fd ps [])(eK:X.K=Z.K:=by rfl)
  (z0:([("rows",V.ref 0)]:List (Str×V)).lookup m=none:=by decide)
  (ht:eval (.Call (.Attribute o m apos) [] [] pos) X.env=(do
   let ov ←eval o X.env
   standAt apos.atName
   let (f,first) ←holding [ov] (getMethod ov m pl)
   callWith pos f first (backTo pos (starEach [] X.env)) (backToKw pos (keywordEach [] X.env))):=by rfl):DE Z X (.Call (.Attribute o m apos) [] [] pos) (zh sd ta D1):=
 (yB (pl:=pl) ho (by rw [eK];exact T.cl) (by rw [eK];exact hm) F hr hb .nil sU ht).imp λσ H Q h=>by
  obtain ⟨G,ρ,P,s,en,h,q⟩:=yr z0 σ H Q h;refine ⟨G,ρ,P,s,en,h,λd hd v G1 H1 x1 dv=>?_⟩;obtain ⟨p,dx,fs,h1,h2,h3,G',az,P',s',SD,h',q'⟩:=q d hd v G1 H1 x1 dv;exact ⟨p,dx,fs,h1,h2,h3,q' _ h' _ G' _ (.refl s') .nil⟩
def uO(Z:DC):Sp:=λvs H Q _=>∃(p dx:Addr)(v:V)(G:Hp)(w:List (List Nat)),vs= [.ref p,v]∧H p=some (.ins Z.C dx [])∧aO G H∧G p=none∧Dv Z G v (aC w)∧Wb.Good w∧1≤w.length∧w.length≤14∧
 ∀(R:Addr)(G' H':Hp),aO G G'→aO G' H'→(∀b o,H b=some o→b≠p→H' b=some o)→(∀b,H b≠none→G b=none→G' b=none)→H' p=some (.ins Z.C dx [("rows", .ref R)])→Dv Z G' (.ref R) (aC w)→Q .aT H'
def E6(t:fu):aQ:=λρ P=>t ρ λds=>∃w,ds= [aC w]∧Wb.Good w∧1≤w.length∧w.length≤14∧P (.iO w)
theorem zv{x:Str}{p:Pos}(M:Mk Z.K Z.C f)(F:FnOk X.prog X.w X.K X.mg X.base bQ k f fd ps (uO Z))(hr:bI (k+1) X.A)(hg:Gl X x)(hm:X.mg x=some (.ref Z.C))(hb:Binds X.K fd ps [])
  (ha:DA Z X (e::es) t) (eK:X.K=Z.K:=by rfl) (gB:(x==("__debug__":Str))=false:=by decide) (he:starEach (e::es) X.env=(false,eval e X.env)::starEach es X.env:=by rfl) (dG:(backTo pos (starEach es X.env)).any (·.1)=false:=by rfl):
  DE Z X (.Call (.Name x p) (e::es) [] pos) (E6 t):=by
 refine (AH (by rw [eK];exact M) F hr hg hm hb .nil sU ha gB he dG).imp ?_
 rintro σ H Q ⟨G,ρ,P,s,en,h,q⟩;refine ⟨G,ρ,_,s,en,h,?_⟩;rintro _ ⟨w,rfl,g,h1,cf,hp⟩ vs G1 H1 x1 aV p dx hx FI ne;cases aV with
 | @cons v _ _ _ dv aV=>
  cases aV;have Aa:upd H1 dx (.own p) p=none:=by rw [ax (Ne.symm ne)];exact hx
  have sJ:=(aK FI (.own p)).trans (aK Aa (.ins Z.C dx []));refine ⟨p,dx,v,G1,w,rfl,av,x1.sub.trans sJ,x1.sub.free hx,dv,g,h1,cf,λR G2 H2 g1 g2 kp off B4 so=>⟨rfl,?_⟩⟩;have gp:G2 p=none:=off p (by rw [av];exact λz=>nomatch z) (x1.sub.free hx)
  refine q _ hp _ (upd G2 p (.ins Z.C dx [("rows", .ref R)])) H2 ⟨(x1.gg.trans g1).trans (aK gp _),λb o e=>?_,λb o e=>?_,λb hb hg=>?_⟩ (.iO av (so.mono (aK gp _)) g h1 cf)
  ·by_cases z:b=p
   ·subst z;rw [av] at e;cases e;exact B4
   ·rw [ax z] at e;exact g2 _ _ e
  ·have e1:=x1.hh _ _ e
   exact kp b o (sJ _ _ e1) (aS e1 hx)
  ·have Jk:=eI x1.hh hb
   have nb:b≠p:=λz=>Jk (by rw [z];exact hx)
   rw [ax nb];exact off b (eI sJ Jk) (x1.off b hb hg)
end
section
variable {Z:DC} {X:Cx} {pos:Pos}
def Aj(g:dB)(tf:eU):List D→DN→List D→(List D→Prop)→Prop
 | [],_,acc,N=>N acc
 |x::xs,ρ,acc,N=>g x ρ λbB=>tf bB λds=>acc.length<sizeLine∧Aj g tf xs bB (acc++ [.lst ds]) N
def D9(wi:gT)(g:dB)(tf:eU)(src:List (Option Nat)):eU:=λρ P=>wi ρ λds=>Aj g tf ds (rP src ρ) [] P
def GS(Z:DC)(n:Nat)(G1 H1:Hp)(Ad:Addr)(ρ:DN)(acc:List D)(σ:St)(H:Hp):Prop:=
 ∃(G:Hp)(ys:List V)(fs:List Addr),aO G1 G∧aO G H∧aO H1 H∧(∀b,H1 b≠none→G1 b=none→G b=none)∧H Ad=some (.lst ys)∧bU (Own Z G H n) ys acc fs∧(Ad::fs).Nodup∧(∀b∈Ad::fs,H1 b=none∧H b≠none∧G b=none)∧b7 Z G σ ρ
theorem bU.snoc{R:V→D→List Addr→Prop}:∀{vs:List V}{ds:List D}{fs:List Addr}{v:V}{d:D}{f:List Addr},bU R vs ds fs→R v d f→bU R (vs++ [v]) (ds++ [d]) (fs++f)
 |_,_,_,v,d,f, .nil,r=>by simpa using bU.cons r .nil
 |_,_,_,v,d,f, .cons a as,r=>by rw [mw];exact .cons a (as.snoc r)
theorem yq{n:Nat}{src:List (Option Nat)}{wi:gT}{g:dB}{tf:eU}:∀σ H Q,kM Z (n+1) (D9 wi g tf src) σ H Q→Bl (sM Z wi) (p5 Z g) Bp (kM Z n tf) src σ H Q:=by
 rintro σ H Q ⟨G,ρ,P,s,en,h,q⟩;refine ⟨G,ρ,_,s,en,h,λds hd J G1 H1 x1 it Ad hA=>?_⟩;refine ⟨λi m gS H2=>m=ds.length-i∧i≤ds.length∧∃gR acc,GS Z n G1 H1 Ad gR acc gS H2∧Aj g tf (ds.drop i) gR acc P,⟨_,rfl,fI _,_,[],⟨G1,[],[], .refl _,λb o e=>?_,aK hA _,λ_ _ h=>h,av, .nil,by simp,λb hb=>?_,(en.mono x1.gg).src src⟩,hd⟩,?_⟩
 ·rw [ax (aS e (x1.sub.free hA))];exact x1.sub _ _ e
 ·have:b=Ad:=by simpa using hb
  subst this;exact ⟨hA,(by rw [av];exact λz=>nomatch z),x1.sub.free hA⟩
 rintro i m gS H2 ⟨rfl,hi,gR,acc,⟨G2,ys,fs,s1,s2,s3,off,pQ,ol,nd,nw,N3⟩,hl⟩
 by_cases eC:i<ds.length
 ·obtain ⟨go,_,yld⟩:=it G2 H2 s1 s2 i
  refine .inr ⟨go eC,λaI H'=>∃az bV,GS Z n G1 H1 Ad az bV aI H'∧Aj g tf (ds.drop (i+1)) az bV P,λaI H' k=>⟨ds.length-(i+1),by omega,rfl,eC,k⟩,λx H3 y=>?_⟩
  obtain ⟨G3,d,x3,FG,dv⟩:=yld x H3 eC y;rw [pG FG] at hl;refine ⟨G3,gR,d,_,x3.sub,N3.mono x3.gg,dv,hl,λbB h1 jr vw=>?_⟩;unfold Bp;dsimp only;rw [if_pos rfl];refine ⟨G3,bB,_,x3.sub,vw,h1,λdr jC v f G6 H6 x6 ow N7 IW=>?_⟩;have x:=x3.trans x6;have aA:Ad∈Ad::fs:=fQ ..
  have mQ:∀b∈Ad::fs,H6 b=H2 b∧G6 b=none:=λb hb=>by
   obtain ⟨_,q2,q3⟩:=nw b hb;refine ⟨?_,x.off b q2 q3⟩;cases e:H2 b with
   |none=>exact absurd e q2
   |some o=>exact x.hh _ _ e
  have Oe:H6 Ad=some (.lst ys):=by rw [(mQ Ad aA).1];exact pQ
  have IQ:∀b∈f,H2 b=none:=λb hb=>x3.hh.free (IW b hb).1;have IV:∀b∈f,∀c∈Ad::fs,b≠c:=λb hb c hc z=>(nw c hc).2.1 (by rw [←z];exact IQ b hb)
  refine ⟨ys,Oe,by rw [ol.length];exact jC.1,bB,_,⟨G6,ys++ [v],fs++f,s1.trans x.gg,λb o e=>?_,λb o e=>?_,λb hb hg=>x.off b (eI s3 hb) (off b hb hg),av,?_,?_,λb hb=>?_,vw.mono x6.gg⟩,jC.2⟩
  ·rw [ax (aS e (mQ Ad aA).2)];exact x.sub _ _ e
  ·rw [ax (aS e hA)];exact (s3.trans x.hh) _ _ e
  ·refine bU.snoc (ol.imp λv d f' hf r=>r.keep x.gg λb hb=>?_) (ow.keep (.refl _) λb hb=>?_)
   ·have kI:b∈fs:=hf b hb
    rw [ax (λz=>(jj.mp nd).1 (by rw [←z];exact kI))]
    exact (mQ b (fJ _ kI)).1
   ·exact ax (IV b hb Ad aA)
  ·rw [←List.cons_append]
   exact jS.mpr ⟨nd,N7,λa ha b hb=>Ne.symm (IV b hb a ha)⟩
  ·rw [←List.cons_append] at hb
   by_cases z:b=Ad
   ·subst z
    exact ⟨hA,(by rw [av];exact λz=>nomatch z),(mQ b aA).2⟩
   ·rcases cu.mp hb with hb|hb
    ·rw [ax z,(mQ b hb).1]
     exact ⟨(nw b hb).1,(nw b hb).2.1,(mQ b hb).2⟩
    ·rw [ax z]
     exact ⟨s3.free (IQ b hb),(IW b hb).2⟩
 ·have e:ds.drop i= []:=xI (by omega)
  rw [e] at hl;refine .inl ⟨(it G2 H2 s1 s2 i).2.1 (by omega),q _ hl (.ref Ad) (Ad::fs) G2 H2 ⟨x1.gg.trans s1,s2,x1.hh.trans s3,λb hb hg=>off b (eI x1.hh hb) (x1.off b hb hg)⟩ (.inl ⟨Ad,ys,acc,fs,rfl,rfl,pQ,rfl,ol⟩) nd λb hb=>⟨x1.hh.free (nw b hb).1,(nw b hb).2⟩⟩
variable {tg iter elt:Expr} {scope:Scope} {NC:List Str} {src:List (Option Nat)} {wi:gT} {g:dB} {tf:eU} {md:List Nat} {rn:Nat}
theorem vk(i:Nat){n:Nat}{x:Str}{px hZ:Pos}(hc:X.calm=true)(hN:X.N.Nodup)(c:bG X scope)(dS:b8 scope X.N src NC)(hi:DI Z X tg iter wi)
  (hg:∀ex s H,DG Z (dN X scope NC ex s H) tg g) (he:∀ex s H,DF Z (dN X scope NC ex s H) n elt tf)
  (iY:swapsWith (.ListComp elt [⟨tg,iter,[],0⟩] scope pos) (some (.Name x px)) hZ.line X.env=pure true:=by rfl) (hm:md.getD i 0=n+1:=by rfl) (qM:X.N[i]? =some x:=by rfl) (hx:Loc X.env.scope x:=by first|exact Or.inl rfl|exact Or.inr rfl)
  (hf:X.fn x=true∨X.env.scope.names.lookup x=some .local:=by first|exact .inl rfl|exact .inr rfl|assumption)
  (hs:∀x,foldedSetIterable iter X.env x=pure x:=by intro _;rfl):DSt Z X md rn (.Assign [.Name x px] (.ListComp elt [⟨tg,iter,[],0⟩] scope pos) hZ) (zk md i (D9 wi g tf src)):=by
 refine (j7 hc hN qM hx c dS hi hg (λ_ _ _=>uH) he iY hf hs).imp ?_;rintro D σ H ⟨B,ρ,E,⟨G,fp,S⟩,h,M⟩;exact yq σ H _ (mU hm S h M)
end
abbrev gi:=inClass
structure vc (Z:DC) (m qual:Str) (st:Stmt) (ps:List Str) where
 f:Addr
 fd:FuncData
 F:qH Z.K m qual st f fd
 b:Binds Z.K fd ps []
 m:Meth Z.K Z.C m f
def mh(K:PySem.W.Frag):Sp:=λvs H Q _=>∃(a:Addr)(ns:List Int),vs= [.ref a]∧bE K H a (ns.map V.int)∧ns.length≤63∧∀H',Q (.bl true) H'
def xB:cp:=λds P=>∃ns:List Int,ds= [.e9 ns]∧ns.length≤63∧P (.bl true)
theorem Cg{Z:DC}:∀vs H Q E,mh Z.K vs H Q E→aU Z xB vs H Q E:=by
 rintro vs H Q E ⟨a,ns,rfl,hS,hl,q⟩;exact ⟨H,[.e9 ns],λd=>d= .bl true, .refl _, .cons (.e9 hS hl) .nil,⟨ns,rfl,hl,rfl⟩,λd hd v G' H' x dv=>by subst hd;cases dv;exact q H'⟩
theorem GL(k:Nat){l:PySem.W.OpenLaw}{q:Program}{loose:List Str}{XP:(Str→Option Value)→Heap→Prop}{YP:World→Heap→Prop}{d:DefRec}{K:Params→PySem.W.Frag}(JA:3*k<150)(hn:l.most=some 63)(vH:d.params.defaults= [])
  (hY:∀(w:World)(h:Heap),YP w h→(K w.params).In h)
  (F:∀(w:World)(mg:Str→Option Value)(fa:Addr)(h:Heap),(K w.params).In h→h.Ns mainGlobals mg→mg d.name=some (.ref fa)→
   ∃fd:FuncData,(∀(s:Shared)(u:Value),BindsTo s fd ⟨[u],[]⟩ [("_law_script",u)])∧∀base:Heap,(K w.params).In base→base.Ns mainGlobals mg→FnOk l.prog w (K w.params) mg base bQ k fa fd ["_law_script"] (mh (K w.params))):
  PySem.W.WalkO q loose XP YP l.row.toRowW d [] (λf vs=>PySem.call f vs):=
 L2.Bt (n:=63) (k:=50) (x:="_law_script") (CX:=λ_=>bQ) (sp:=λw=>mh (K w.params)) hn (by decide) vH ⟨rfl,by decide,by decide⟩ hY (λw mg fa h a b c=>by
  obtain ⟨fd,h1,h2⟩:=F w mg fa h a b c;exact ⟨fd,h1,λbase x y=>(h2 base x y).mono (by omega)⟩) (λ_ _ a ns hl _ hS=>⟨a,ns,rfl,hS,hl,λ_=>rfl⟩) λ_ _ _ _ _ z=>z
theorem bw{c:Bool}{A B:Prop}(h1:c=true→A)(h2:c=false→B):if c=true then A else B:=by
 cases c with
 |true=>exact cq (h1 rfl)
 |false=>exact bX (h2 rfl)
theorem pX{i:Nat}{tt:b6}{te:aQ}{ρ:DN}{α:Type}(enc:α→D)(p:α→Bool)(f:α→D):∀(ys:List α)(az:DN)(acc:List D)(N:DN→List D→Prop),(∀y∈ys,∀(Y:D→Prop)(Nn:Prop),(p y=true→Y (f y))→(p y=false→Nn)→tt (ρ.set i (some (enc y))) λb=>if b=true then te (ρ.set i (some (enc y))) Y else Nn)→
  (∃o,az=ρ.set i o)→acc.length+ys.length≤sizeLine→(∀az,N az (acc++(ys.filter p).map f))→jF (lE i) tt te (ys.map enc) az acc N
 | [],az,acc,N,_,_,_,h=>by
  show N az acc;simpa using h az
 |y::ys,az,acc,N,hs,⟨o,ho⟩,hz,h=>by
  show tt (az.set i (some (enc y))) _;rw [ho,List.set_set];rw [dY] at hz;refine hs y (fQ ..) _ _ (λhp=>⟨by omega,?_⟩) (λhp=>?_)
  ·refine pX enc p f ys _ (acc++ [f y]) N (λz hz=>hs z (fJ _ hz)) ⟨_,rfl⟩ (by simp;omega) λjV=>?_
   have:=h jV
   rw [List.filter_cons,hp] at this;simpa using this
  ·refine pX enc p f ys _ acc N (λz hz=>hs z (fJ _ hz)) ⟨_,rfl⟩ (by omega) λjV=>?_
   have:=h jV
   rw [List.filter_cons,hp] at this;simpa using this
theorem hC{i:Nat}{te:aQ}{ρ:DN}{α:Type}(enc:α→D)(f:α→D)(ys:List α)(N:DN→List D→Prop)(hs:∀y∈ys,∀(Y:D→Prop),Y (f y)→te (ρ.set i (some (enc y))) Y)(h0:ρ[i]? =some none)(hz:ys.length≤sizeLine)(h:∀az,N az (ys.map f)):jF (lE i) zt te (ys.map enc) ρ [] N:=by
 refine pX (ρ:=ρ) enc (λ_=>true) f ys ρ [] N (λy hy Y Nn h1 _=>?_) ⟨none,?_⟩ (by simpa using hz) λaz=>by rw [List.filter_eq_self.mpr (λ_ _=>rfl),qC];exact h az
 ·unfold zt
  dsimp only;rw [if_pos rfl];exact hs y hy Y (h1 rfl)
 ·obtain ⟨hi,e⟩:=eo.mp h0
  rw [←e,List.set_getElem_self]
theorem rf{g:dB}{tb:bP}{E:cv}(I:Nat→DN→Prop):∀(ds:List D)(k:Nat)(ρ:DN),I k ρ→(∀(j:Nat)(d:D)(ρ:DN),ds[j]? =some d→I (k+j) ρ→∀A:DN→Prop,(∀ρ,I (k+j+1) ρ→A ρ)→g d ρ λbB=>tb {nx:=A,ct:=A,bk:=E.nx,rt:=E.rt} bB)→
  (∀ρ,I (k+ds.length) ρ→E.nx ρ)→jB g tb E ds ρ
 | [],k,ρ,h0,hs,he=>he ρ h0
 |d::ds,k,ρ,h0,hs,he=>by
  refine hs 0 d ρ rfl h0 _ λaz h'=>?_
  exact rf I ds (k+1) az h' (λj d' gR hj h2 A hA=>by
   refine hs (j+1) d' gR (by simpa using hj) (by rw [show k+(j+1)=k+1+j by omega];exact h2) A λSi h3=>hA Si ?_
   rw [show k+1+j+1=k+(j+1)+1 by omega];exact h3) (λgR h2=>he gR (by rw [dY,show k+(ds.length+1)=k+1+ds.length by omega];exact h2))
theorem bK{g:dB}{tb:bP}{E:cv}{ds:List D}{ρ:DN}(I:Nat→DN→Prop)(h0:I 0 ρ)(hs:∀(j:Nat)(d:D)(ρ:DN),ds[j]? =some d→I j ρ→∀A:DN→Prop,(∀ρ,I (j+1) ρ→A ρ)→g d ρ λbB=>tb {nx:=A,ct:=A,bk:=E.nx,rt:=E.rt} bB)
  (he:∀ρ,I ds.length ρ→E.nx ρ):jB g tb E ds ρ:=rf I ds 0 ρ h0 (λj d ρ hj h A hA=>hs j d ρ hj (by simpa using h) A λaz h'=>hA az (by simpa using h')) (λρ h=>he ρ (by simpa using h))
theorem ub{g:dB}{tb:bP}{E:cv}{lo:Int}{n:Nat}{ρ:DN}(I:Nat→DN→Prop)(h0:I 0 ρ)(hs:∀(j:Nat)(ρ:DN),j<n→I j ρ→∀A:DN→Prop,(∀ρ,I (j+1) ρ→A ρ)→g (.int (lo+j)) ρ λbB=>tb {nx:=A,ct:=A,bk:=E.nx,rt:=E.rt} bB)
  (he:∀ρ,I n ρ→E.nx ρ):jB g tb E (dh lo n) ρ:=by
 have l:(dh lo n).length=n:=by unfold dh;simp
 refine bK I h0 (λj d ρ hj h A hA=>?_) (λρ h=>he ρ (by rw [l] at h;exact h))
 have eC:j<n:=by
  have:=(eo.mp hj).1
  rw [l] at this;exact this
 rw [nO eC] at hj;cases hj;exact hs j ρ eC h A hA
theorem lb{c:b6}{tb:bP}{E:cv}{ρ:DN}(I:Nat→DN→Prop)(m0:Nat)(h0:I m0 ρ)(hs:∀m ρ,I m ρ→c ρ λb=>if b=true then tb {nx:=λaz=>∃m',m'<m∧I m' az,ct:=λaz=>∃m',m'<m∧I m' az,bk:=E.nx,rt:=E.rt} ρ else E.nx ρ):wZ c tb E ρ:=⟨I,⟨m0,h0⟩,hs⟩
def GU(K:PySem.W.Frag)(a:Addr)(n:Nat):It:=
 ⟨λi H=>i<n∧∃xs,bE K H a xs∧xs.length=n,λi H x H'=>H'=H∧∀xs,bE K H a xs→xs[n-1-i]? =some x,λi H=>n≤i⟩
theorem yT{P:Program}{w:World}{K:PySem.W.Frag}{tg:Expr}(a it:Addr)(n:Nat):Turn P w K tg (GU K a n) [it] it (λi h=>i≤n∧h.IsRevIter it a ((n:Int)-1-(i:Int))) where
 mem:=by simp
 obj:=λi h st b hb=>by
  have e:b=it:=by simpa using hb
  subst e;obtain ⟨_,o,e,c,d⟩:=st;exact ⟨o,e,λv z=>by rw [d] at z;cases z⟩
 keep:=λi h h' st k=>⟨st.1,st.2.at λo e=>k it (by simp) o e⟩
 item:=by
  intro X hP hw hK hc i pins s σ H E I hf st hg;subst hP hw hK;obtain ⟨hi,xs,hq,hl⟩:=hg;obtain ⟨its,rv,p,hz⟩:=I.list hq;have hlen:=rv.length;have hx:xs[n-1-i]? =some (xs[n-1-i]'(by omega)):=eN (by omega)
  obtain ⟨u,hu,ru⟩:=rv.get hx;obtain ⟨f0,f1,f2,f3,f4,f5⟩:=hf it (by simp)
  have e:(n:Int)-1-(i:Int)=((n-1-i:Nat):Int):=by omega
  obtain ⟨_,st⟩:=st;rw [e] at st;refine wpAny_pyNext_rev_item st p.isList (x:=u) (by simpa using hu) λh' tE sb=>?_
  have I1:Inv X pins σ H {s with heap:=h'}:=I.turned (t':=s.toks) (λb o hb e=>(sb.2 b hb).trans e) f0 f1 f3 f4 f5
  have e2:((n-1-i:Nat):Int)-1=(n:Int)-1-((i+1:Nat):Int):=by omega
  rw [e2] at tE;obtain ⟨o,e,c,d⟩:=id tE;exact ⟨u,rfl,vA (s:={s with heap:=h'}) e c d (by decide) ⟨_,H,I1,ru,⟨rfl,λys hy=>by rw [I.mT hy hq];exact hx⟩,⟨hi,tE⟩,λb hb=>(hf b hb).1⟩⟩
 done:=by
  intro X hP hw hK hc i pins s σ H E I hf st hg;subst hP hw hK;obtain ⟨hi,st⟩:=st;have hg:n≤i:=hg;have e:(n:Int)-1-(i:Int)= -1:=by omega
  rw [e] at st;obtain ⟨f0,f1,f2,f3,f4,f5⟩:=hf it (by simp)
  exact wpAny_pyNext_rev_end (I.ok.hd hc) st λh' eb=>⟨rfl,I.turned (t':=s.toks) (λb o hb e=>eb b o hb e) f0 f1 f3 f4 f5⟩
 self:=λ_ _ _ _ _ st h=>wpAny_pyIter_revIter st.2 h
theorem lq:bootBuiltins "reversed"=some (.type "reversed"):=by decide+kernel
section
variable {Z:DC} {X:Cx} {a b c e:Expr} {ta tb te:aQ} {t:fu} {pos:Pos}
def JQ(K:PySem.W.Frag)(ta:TA):TI:=λσ H R=>ta σ H λvs H1=>∃a xs,vs= [.ref a]∧bE K H1 a xs∧R (GU K a xs.length) H1
theorem CO{tg:Expr}{ta:TA}{p:Pos}(hg:Gl X "reversed")(hm:X.mg "reversed"=none)(ha:PA X [a] ta)(hs:starEach [a] X.env= [(false,eval a X.env)]:=by rfl):
  PI X tg (.Call (.Name "reversed" p) [a] [] pos) (JQ X.K ta):=by
 intro pins s σ H R I h;refine Call_ (fh I hg hm lq (PyProof.Rows.callWith_type1 (thn (ha pos pins s σ H _ I h) λus s1 ⟨vs,H1,I1,r1,q1⟩=>?_) hs rfl));obtain ⟨l,xs,e,hl,q⟩:=q1;subst e;obtain ⟨u,rfl,ru⟩:=r1.one;cases ru;obtain ⟨its,rv,p,hz⟩:=I1.list hl;have hlen:=rv.length;refine call_reversed_list p.isList ?_;have hit:(s1.heap.push (revObj l ((its.toArray.size:Int)-1))).IsRevIter s1.heap.objs.size l ((xs.length:Int)-1-((0:Nat):Int)):=⟨_,Heap.get?_push_size _ rfl,rfl,by simp [revObj,hlen]⟩
 refine wpAny_pyIter_revIter hit ?_;refine ⟨s1.heap.objs.size,[s1.heap.objs.size],_,_,H1,rfl,I1.kept (t':=s1.toks) λb o e=>Heap.get?_push_of_some _ e,yT l _ xs.length,⟨fI _,hit⟩,λb hb=>?_,q⟩;have e:b=s1.heap.objs.size:=by simpa using hb
 subst e;exact I1.xb (bC _) (I1.hok.fresh (bC _))
def Fl(t:fu):gT:=λρ P=>t ρ λds=>match ds with
 | [.lst l]=>P l.reverse
 |_=>False
theorem BM{tg:Expr}{p:Pos}(hg:Gl X "reversed")(hm:X.mg "reversed"=none)(ha:DA Z X [a] t)(hs:starEach [a] X.env= [(false,eval a X.env)]:=by rfl):DI Z X tg (.Call (.Name "reversed" p) [a] [] pos) (Fl t):=by
 refine (CO hg hm ha hs).imp ?_;rintro σ H Q ⟨G,ρ,P,s,en,h,q⟩;refine ⟨G,ρ,_,s,en,h,λds hd vs G1 H1 x1 dv=>?_⟩;cases dv with
 |nil=>exact hd.elim
 |cons a as=>
  cases as with
  |cons _ _=>cases a<;>exact hd.elim
  |nil=>
   cases a<;>first|exact hd.elim|skip
   rename_i p xs ds ha e
   refine ⟨_,xs,rfl,bE.of (x1.sub _ _ ha),q _ hd _ G1 H1 x1 ?_⟩;intro G2 H2 s1 s2 i;have h2:=bE.of (K:=X.K) (s2 _ _ (s1 _ _ ha));have l:=e.length;rw [xK];refine ⟨λhi=>⟨by omega,xs,h2,rfl⟩,λhi=>(show xs.length≤i by omega),?_⟩
   rintro x H' hi ⟨rfl,hx⟩;obtain ⟨d,jC,jz⟩:=e.uc (hx _ h2);refine ⟨G2,d, .refl s2,?_,jz.mono s1⟩;rw [List.getElem?_reverse hi,←l];exact jC
variable {md:List Nat} {rn:Nat} {k:Expr} {tk:aQ}
variable {apos aP:Pos}
variable {es:List Expr}
def zI(sd:cp)(t:fu):eU:=λρ P=>t ρ λas=>sd as λd=>∃ds,d= .lst ds∧P ds
theorem zx{n:Nat}{sd:cp}{k:Nat}{f:Addr}{fd:FuncData}{ps:List Str}{x:Str}{p:Pos}(F:FnOk X.prog X.w X.K X.mg X.base bQ k f fd ps (eE Z n sd))(hr:bI k X.A)(hg:Gl X x)(hm:X.mg x=some (.ref f))(hk:PySem.W.keepIn X.K (.ref f)=true)(hb:Binds X.K fd ps [])
  (ha:DA Z X (e::es) t) (gB:(x==("__debug__":Str))=false:=by decide) (he:starEach (e::es) X.env=(false,eval e X.env)::starEach es X.env:=by rfl) (dG:(backTo pos (starEach es X.env)).any (·.1)=false:=by rfl):
  DF Z X n (.Call (.Name x p) (e::es) [] pos) (zI sd t):=by
 refine (uA F hr hg hm hk hb .nil sU ha gB he dG).imp ?_;rintro σ H Q ⟨G,ρ,P,s,en,h,q⟩;refine ⟨G,ρ,_,s,en,h,λds hd vs G1 H1 x1 aV=>?_⟩;show eE Z n sd (vs++ []) H1 Q E0;rw [mz];refine ⟨G1,ds,_,x1.sub,aV,hd,?_⟩;rintro _ ⟨dr,rfl,hp⟩ v f G2 H2 x2 o nd nw;exact q _ hp v f G2 H2 (x1.trans x2) o nd λb hb=>⟨x1.hh.free (nw b hb).1,(nw b hb).2⟩
end
section
variable {X:Cx} {elt t0 i0 t1 i1:Expr} {f0 f1:List Expr} {scope:Scope} {pos:Pos} {wi Mm:TI} {g g1:TG} {tt Ml:TT} {te:TE} {src:List (Option Nat)} {NC:List Str}
end
section
variable {Z:DC} {X:Cx} {md:List Nat} {rn:Nat} {elt t0 i0 t1 i1:Expr} {f0 f1:List Expr} {scope:Scope} {pos:Pos} {wi Mm:gT} {g g1:dB} {tt Ml:b6} {te:aQ} {src:List (Option Nat)} {NC:List Str}
end
section
variable {Z:DC} {X:Cx} {md:List Nat} {rn:Nat} {e:Expr} {pos:Pos}
def zo(i:Nat)(t:eU):bP:=λE ρ=>t ρ λds=>ds.all bY=true∧E.nx (ρ.set i (some (.lst ds)))
theorem au.flat{G G':Hp}:∀{vs:List V}{ds:List D},au Z G vs ds→ds.all bY=true→au Z G' vs ds
 |_,_, .nil,_=> .nil
 |_,_, .cons a as,h=>by
  rw [List.all_cons,qB] at h;exact .cons (a.flat h.1) (as.flat h.2)
theorem pH(i:Nat){x:Str}{pos':Pos}{t:eU}(hN:X.N.Nodup)(he:DF Z X 1 e t)(hm:md.getD i 0=1:=by rfl)(hi:X.N[i]? =some x:=by rfl)(hx:Loc X.env.scope x:=by first|exact Or.inl rfl|exact Or.inr rfl)(hs:swapsWith e (some (.Name x pos')) pos.line X.env=pure false:=by rfl)
  (hf:X.fn x=true∨X.env.scope.names.lookup x=some .local:=by first|exact .inl rfl|exact .inr rfl|assumption):DSt Z X md rn (.Assign [.Name x pos'] e pos) (zo i t):=by
 refine (fk hN hi hx he hs hf).imp ?_;rintro D σ H ⟨B,ρ,E,⟨G,fp,S⟩,h,M⟩;refine ⟨H,ρ,_, .refl _,S.nH,h,?_⟩;rintro ds ⟨zV,hd⟩ v f G' H' x o nd nw;have x':=Ext.all S.ex.sub x;have S':=S.grow x';obtain ⟨a,xs,dr,fK,rfl,e1,ha,vI,ol⟩:=o.lst;cases e1;obtain ⟨dv,rfl⟩:=ol.flat;have hb:H a=none:=(nw a (by rw [vI];simp)).1
 refine M.nx _ hd _ _ ⟨G,_,S'.rO (f:= [a]) hm (.inl ⟨a,xs,ds,[],rfl,rfl,ha,rfl,(dv.flat zV).own⟩) (by simp) (λb kI=>?_) λb kI j _ hj=>?_⟩
 ·have:b=a:=by simpa using kI
  subst this;exact ⟨S.ex.hh.free hb,(nw b (by rw [vI];simp)).2.1,S.ex.sub.free hb⟩
 ·have:b=a:=by simpa using kI
  subst this;exact (S.nw j b hj).2.1 hb
end
theorem kG{l:List D}{j:Nat}{d:D}(h:(jA l)[j]? =some d):∃x,l[j]? =some x∧d= .tup [.int (j:Int),x]:=by
 unfold jA at h;rw [List.getElem?_mapIdx] at h;cases e:l[j]? with
 |none=>rw [e] at h;cases h
 |some x=>rw [e] at h;cases h;exact ⟨x,rfl,rfl⟩
theorem cj{α β:Type}{f:α→β}{l:List α}{j:Nat}{y:β}(h:(l.map f)[j]? =some y):∃x,l[j]? =some x∧y=f x:=by
 rw [cU] at h;cases e:l[j]? with
 |none=>rw [e] at h;cases h
 |some x=>rw [e] at h;cases h;exact ⟨x,rfl,rfl⟩
theorem cF(r:List Nat):(r.map ag).all bY=true:=by simp [ag,bY]
theorem jE{r:List Nat}{p:Nat}:inD (ag p) (r.map ag)=decide (p∈r):=by
 unfold inD;rw [List.any_map]
 have:((λy=>fS y (ag p))∘ag)=λq:Nat=>decide (q=p):=by
  funext q
  simp [ag,fS,Function.comp]
  by_cases z:q=p
  ·simp [z]
  ·have:¬(q:Int)=(p:Int):=by omega
   simp [z,this]
 rw [this]
 by_cases h:p∈r
 ·rw [decide_eq_true h,List.any_eq_true];exact ⟨p,h,by simp⟩
 ·rw [decide_eq_false h]
  apply mx.mpr;intro z;rw [List.any_eq_true] at z;obtain ⟨q,hq,e⟩:=z
  exact h (by have:q=p:=by simpa using e
              rw [←this];exact hq)
theorem dR{l:List D}{p:Nat}{d:D}(h:l[p]? =some d):cX l (p:Int)=some d:=tN h
theorem mj{w:List (List Nat)}{p:Nat}(h:p<w.length):(w.map ao)[p]? =some (ao (Wb.row w p)):=by
 rw [cU,Wb.A3 h];rfl
section
variable {Z:DC} {X:Cx} {md:List Nat} {rn:Nat} {e:Expr} {te:aQ} {pos:Pos}
end
theorem rz{c:Bool}{A B:Prop}(e:c=false)(h:B):if c=true then A else B:=by rw [if_neg (by rw [e];exact dP)];exact h
theorem j4{g:dB}{tt:b6}{te:aQ}{α:Type}(I:DN→Prop)(enc:α→D)(p:α→Bool)(f:α→D):∀(ys:List α)(az:DN)(acc:List D)(N:DN→List D→Prop),(∀y∈ys,∀az,I az→∀(Y:DN→D→Prop)(Nn:DN→Prop),(∀bB,I bB→p y=true→Y bB (f y))→(∀bB,I bB→p y=false→Nn bB)→g (enc y) az λbB=>tt bB λb=>if b=true then te bB (Y bB) else Nn bB)→
  I az→acc.length+ys.length≤sizeLine→(∀az,I az→N az (acc++(ys.filter p).map f))→jF g tt te (ys.map enc) az acc N
 | [],az,acc,N,_,hI,_,h=>by
  show N az acc;simpa using h az hI
 |y::ys,az,acc,N,hs,hI,hz,h=>by
  rw [dY] at hz;refine hs y (fQ ..) az hI (λbB d=>acc.length<sizeLine∧jF g tt te (ys.map enc) bB (acc++ [d]) N) (λbB=>jF g tt te (ys.map enc) bB acc N) (λbB h1 hp=>⟨by omega,?_⟩) (λbB h1 hp=>?_)
  ·refine j4 I enc p f ys _ (acc++ [f y]) N (λz hz=>hs z (fJ _ hz)) h1 (by simp;omega) λjV h2=>?_
   have:=h jV h2
   rw [List.filter_cons,hp] at this;simpa using this
  ·refine j4 I enc p f ys _ acc N (λz hz=>hs z (fJ _ hz)) h1 (by omega) λjV h2=>?_
   have:=h jV h2
   rw [List.filter_cons,hp] at this;simpa using this
theorem gD{α:Type}{us:List α}(h:us.length=1):∃a0,us= [a0]:=by
 cases us with
 |nil=>cases h
 |cons a l=>
  cases l with
  |nil=>exact ⟨a,rfl⟩
  |cons _ _=>cases h
theorem lP{α:Type}{us:List α}(h:us.length=2):∃a0 a1,us= [a0,a1]:=by
 cases us with
 |nil=>cases h
 |cons a l=>
  obtain ⟨a1,rfl⟩:=gD (Nat.succ.inj h);exact ⟨a,a1,rfl⟩
theorem um{α:Type}{us:List α}(h:us.length=3):∃a0 a1 a2,us= [a0,a1,a2]:=by
 cases us with
 |nil=>cases h
 |cons a l=>
  obtain ⟨a1,a2,rfl⟩:=lP (Nat.succ.inj h);exact ⟨a,a1,a2,rfl⟩
theorem rG{α:Type}{us:List α}(h:us.length=4):∃a0 a1 a2 a3,us= [a0,a1,a2,a3]:=by
 cases us with
 |nil=>cases h
 |cons a l=>
  obtain ⟨a1,a2,a3,rfl⟩:=um (Nat.succ.inj h);exact ⟨a,a1,a2,a3,rfl⟩
section
variable {Z:DC} {X:Cx} {e:Expr} {es:List Expr} {t:fu} {pos:Pos}
theorem ay{sd:cp}{k j:Nat}{x:Str}{st:Stmt}{ps:List Str}{p:Pos}(d:dZ X.K X.mg x st ps)(F:FnOk X.prog X.w X.K X.mg X.base bQ k d.f d.fd ps (aU Z sd))(hr:bI j X.A)(ha:DA Z X (e::es) t)(hg:Gl X x:=by rfl)(hk:k≤j:=by first|decide|omega)
  (gB:(x==("__debug__":Str))=false:=by decide) (he:starEach (e::es) X.env=(false,eval e X.env)::starEach es X.env:=by rfl) (dG:(backTo pos (starEach es X.env)).any (·.1)=false:=by rfl):
  DE Z X (.Call (.Name x p) (e::es) [] pos) (pz sd t):=zu F (hr.mono hk) hg d.m d.F.kp d.b ha gB he dG
theorem mI{n:Nat}{sd:cp}{k j:Nat}{x:Str}{st:Stmt}{ps:List Str}{p:Pos}(d:dZ X.K X.mg x st ps)(F:FnOk X.prog X.w X.K X.mg X.base bQ k d.f d.fd ps (eE Z n sd))(hr:bI j X.A)(ha:DA Z X (e::es) t)(hg:Gl X x:=by rfl)(hk:k≤j:=by first|decide|omega)
  (gB:(x==("__debug__":Str))=false:=by decide) (he:starEach (e::es) X.env=(false,eval e X.env)::starEach es X.env:=by rfl) (dG:(backTo pos (starEach es X.env)).any (·.1)=false:=by rfl):
  DF Z X n (.Call (.Name x p) (e::es) [] pos) (zI sd t):=zx F (hr.mono hk) hg d.m d.F.kp d.b ha gB he dG
theorem lA{scope:Scope}(sc:Scope)(e:X.env.scope=sc:=by rfl)(k:scope.kind= .function:=by rfl)(a:∀x∈scope.names,x.2= .local→scope.names.lookup x.1=some .local:=by decide+kernel)(b:∀x∈scope.names,x.2≠ .cell:=by decide+kernel)
  (c:∀x∈scope.names,x.2= .free→sc.names.lookup x.1=some .cell∨sc.names.lookup x.1=some .free:=by decide+kernel):bG X scope:=bG.of sc e k a b c
end
section
variable {K:PySem.W.Frag} {h:Heap} {mg:Str→Option Value}
abbrev eW(K:PySem.W.Frag)(x:Str)(d:Addr):Prop:=PySem.W.nsIn K mainGlobals x=some (some (.ref d))
abbrev cW(K:PySem.W.Frag)(x qual:Str)(st:Stmt)(d:Addr)(od an:Option Addr)(sl:Array (Option Value))(oc kV dc pm cd ct:Value):Prop:=K.lookup d=some ⟨oc,od, .func (PySem.W.fnOf x qual (gr st) (dE st) (ar st) .none kV dc pm an cd ct),sl⟩
def dZ.of{x:Str}{st:Stmt}{ps:List Str}{d:Addr}{od an:Option Addr}{sl:Array (Option Value)}{oc kV dc pm cd ct:Value}(X:K.In h)(G:h.Ns mainGlobals mg)(a:eW K x d)(l:cW K x x st d od an sl oc kV dc pm cd ct)(c:PySem.W.codeIn K cd x=true)(k:PySem.W.keepIn K (.ref d)=true)
  (b:∀(kV doc pm:Value)(an:Option Addr)(bg ct:Value)(us:List Value),us.length=ps.length→bindArgs (PySem.W.fnOf x x (gr st) (dE st) (ar st) .none kV doc pm an bg ct) ⟨us,[]⟩=pure (ps.zip us)):dZ K mg x st ps:=
 ⟨d,_,lI l c k,(lI l c k).binds b,PySem.W.mg_of X G a⟩
def vc.of{Z:DC}{m qual:Str}{st:Stmt}{ps:List Str}{d:Addr}{od an:Option Addr}{sl:Array (Option Value)}{oc kV dc pm cd ct:Value}(a:PySem.W.findIn Z.K (.ref Z.C) m=some (some (.ref d)))(f:PySem.W.isFn Z.K (.ref d)=true)(l:cW Z.K m qual st d od an sl oc kV dc pm cd ct)(c:PySem.W.codeIn Z.K cd qual=true)(k:PySem.W.keepIn Z.K (.ref d)=true)
  (b:∀(kV doc pm:Value)(an:Option Addr)(bg ct:Value)(us:List Value),us.length=ps.length→bindArgs (PySem.W.fnOf m qual (gr st) (dE st) (ar st) .none kV doc pm an bg ct) ⟨us,[]⟩=pure (ps.zip us)):vc Z m qual st ps:=
 ⟨d,_,lI l c k,(lI l c k).binds b,⟨a,f,k⟩⟩
end
end L2
namespace Wb
structure RI (w:W) (bs:List Bool) (ws ex:List Nat) (c:Nat):Prop where
 len:bs.length=w.length
 z:bs[0]? =some true
 wt:∀x∈ws,bs[x]? =some true
 cl:∀x,bs[x]? =some true→x∈ws∨x∈ex∨∀q∈row w x,bs[q]? =some true
 cnt:bs.count false+ws.length≤c
theorem RI.pop{w:W}{bs:List Bool}{ws:List Nat}{p c:Nat}(h:RI w bs (ws++ [p]) [] (c+1)):RI w bs ws [p] c:=
 ⟨h.len,h.z,λx hx=>h.wt x (fV _ hx),λx hx=>by
  rcases h.cl x hx with q|q|q
  ·rcases cu.mp q with q|q
   ·exact .inl q
   ·exact .inr (.inl q)
  ·cases q
  ·exact .inr (.inr q),by have:=h.cnt;rw [cK] at this;simp at this;omega⟩
theorem RI.push{w:W}{bs:List Bool}{ws ex:List Nat}{q c:Nat}(h:RI w bs ws ex c)(hq:bs[q]? =some false):RI w (bs.set q true) (ws++ [q]) ex c:=by
 obtain ⟨hl,he⟩:=eo.mp hq
 have up:∀x,bs[x]? =some true→(bs.set q true)[x]? =some true:=λx hx=>by
  rw [n6]
  by_cases e:q=x
  ·rw [if_pos e,if_pos hl]
  ·rw [if_neg e];exact hx
 refine ⟨by rw [eM];exact h.len,up _ h.z,λx hx=>?_,λx hx=>?_,?_⟩
 ·rcases cu.mp hx with z|z
  ·exact up _ (h.wt x z)
  ·have:x=q:=by simpa using z
   rw [this,n6,if_pos rfl,if_pos hl]
 ·by_cases e:q=x
  ·exact .inl (by rw [e];simp)
  ·rw [n6,if_neg e] at hx
   rcases h.cl x hx with z|z|z
   ·exact .inl (fV _ z)
   ·exact .inr (.inl z)
   ·exact .inr (.inr λy hy=>up _ (z y hy))
 ·have hc:=h.cnt
  have:0<bs.count false:=List.count_pos_iff.mpr (by rw [←he];exact og hl)
  rw [List.count_set hl,he,cK];simp;omega
theorem RI.close{w:W}{bs:List Bool}{ws:List Nat}{p c:Nat}(h:RI w bs ws [p] c)(hp:∀q∈row w p,bs[q]? =some true):RI w bs ws [] c:=
 ⟨h.len,h.z,h.wt,λx hx=>by
  rcases h.cl x hx with q|q|q
  ·exact .inl q
  ·have:x=p:=by simpa using q
   rw [this];exact .inr (.inr hp)
  ·exact .inr (.inr q),h.cnt⟩
theorem RI.all{w:W}{bs:List Bool}{c:Nat}(g:Good w)(h:RI w bs [] [] c):bs=List.replicate w.length true:=by
 have:=nA g (S:=λx=>bs[x]? =some true) h.z λp q hp hq=>by
  rcases h.cl p hp with z|z|z
  ·cases z
  ·cases z
  ·exact z q hq
 refine List.ext_getElem? λi=>?_
 by_cases hi:i<w.length
 ·rw [this i hi,rT,if_pos hi]
 ·rw [h8 (by rw [h.len];omega),h8 (by simp;omega)]
end Wb
namespace yX
open PySem L2 Wb
def top(i:Nat):Stmt:=PySem.Challenge.pw_mapdye_k52_whole_exchanged_chains.main.body.getD i (.Pass ⟨0,0,0,0⟩)
abbrev qt:Stmt:=top 9
abbrev i8:Stmt:=top 10
abbrev jL:Stmt:=top 13
abbrev gJ:Stmt:=top 14
abbrev iA:Stmt:=top 15
abbrev gM:Stmt:=top 16
abbrev iz:Stmt:=top 17
abbrev bO:Stmt:=top 18
abbrev gK:Stmt:=top 19
abbrev gL:Stmt:=top 20
abbrev fN:Stmt:=top 23
abbrev fO:Stmt:=top 24
abbrev iu:Stmt:=top 25
abbrev iw:Stmt:=top 26
abbrev eG:Stmt:=top 27
abbrev fo:Stmt:=top 28
abbrev jK:Stmt:=top 29
abbrev fq:Stmt:=top 30
abbrev cT:Stmt:=top 31
abbrev eF:Stmt:=top 32
abbrev dH:Stmt:=top 33
abbrev gb:Stmt:=top 34
abbrev jJ:Stmt:=top 35
abbrev di:Stmt:=top 36
abbrev dA:Stmt:=top 37
abbrev nj:Stmt:=top 38
abbrev cD:Stmt:=L2.gi (top 21) 0
abbrev nQ:Stmt:=L2.gi (top 21) 1
abbrev f9:Stmt:=L2.gi (top 21) 2
abbrev nU:Stmt:=L2.gi (top 21) 3
abbrev nS:Stmt:=L2.gi (top 21) 4
abbrev ko:Stmt:=L2.gi (top 21) 5
theorem rN:aJ ["web","dyeing","p","dye","turns","pair","met","waiting","q"] ["web","dyeing","p","dye"] (ar qt):=⟨rfl,rfl,rfl,by decide+kernel,rfl,by decide+kernel,by decide+kernel⟩
theorem kv:aJ ["dyeing","points","one","other","told","p"] ["dyeing","points","one","other"] (ar i8):=⟨rfl,rfl,rfl,by decide+kernel,rfl,by decide+kernel,by decide+kernel⟩
theorem me:aJ ["thing","many"] ["thing","many"] (ar jL):=⟨rfl,rfl,rfl,by decide+kernel,rfl,by decide+kernel,by decide+kernel⟩
theorem jd:aJ ["rows","p","row","q"] ["rows"] (ar gJ):=⟨rfl,rfl,rfl,by decide+kernel,rfl,by decide+kernel,by decide+kernel⟩
theorem jR:aJ ["rows","p","row"] ["rows"] (ar iA):=⟨rfl,rfl,rfl,by decide+kernel,rfl,by decide+kernel,by decide+kernel⟩
theorem jg:aJ ["rows","p","row","place","q"] ["rows"] (ar gM):=⟨rfl,rfl,rfl,by decide+kernel,rfl,by decide+kernel,by decide+kernel⟩
theorem jQ:aJ ["rows","p","row","q"] ["rows"] (ar iz):=⟨rfl,rfl,rfl,by decide+kernel,rfl,by decide+kernel,by decide+kernel⟩
theorem eH:aJ ["rows","reached","waiting","p","q"] ["rows"] (ar bO):=⟨rfl,rfl,rfl,by decide+kernel,rfl,by decide+kernel,by decide+kernel⟩
theorem je:aJ ["rows","q","reached"] ["rows"] (ar gK):=⟨rfl,rfl,rfl,by decide+kernel,rfl,by decide+kernel,by decide+kernel⟩
theorem jf:aJ ["rows","fault"] ["rows"] (ar gL):=⟨rfl,rfl,rfl,by decide+kernel,rfl,by decide+kernel,by decide+kernel⟩
theorem iL:aJ ["_law_script","_law_k"] ["_law_script","_law_k"] (ar fN):=⟨rfl,rfl,rfl,by decide+kernel,rfl,by decide+kernel,by decide+kernel⟩
theorem iM:aJ ["_law_cell","_law_k","_law_number"] ["_law_cell","_law_k"] (ar fO):=⟨rfl,rfl,rfl,by decide+kernel,rfl,by decide+kernel,by decide+kernel⟩
theorem jM:aJ ["_law_script","_law_at","_law_many","_law_cell","_law_found","_law_first","_law_k","_law_number"] ["_law_script","_law_at","_law_many"] (ar iu):=⟨rfl,rfl,rfl,by decide+kernel,rfl,by decide+kernel,by decide+kernel⟩
theorem jO:aJ ["_law_turns","_law_sides","_law_found","_law_p","_law_q","_law_row","_law_side","_law_turn"] ["_law_turns"] (ar iw):=⟨rfl,rfl,rfl,by decide+kernel,rfl,by decide+kernel,by decide+kernel⟩
theorem jc:aJ ["_law_land","_law_number","_law_first","_law_found","_law_k"] ["_law_land","_law_number"] (ar eG):=⟨rfl,rfl,rfl,by decide+kernel,rfl,by decide+kernel,by decide+kernel⟩
theorem jN:aJ ["_law_turns","_law_land","_law_places_here","_law_made","_law_around","_law_at","_law_turn","_law_place"] ["_law_turns","_law_land","_law_places_here"] (ar fo):=⟨rfl,rfl,rfl,by decide+kernel,rfl,by decide+kernel,by decide+kernel⟩
theorem ma:aJ ["_law_draws_here","_law_turns","_law_number","_law_rows","_law_land"] ["_law_draws_here"] (ar jK):=⟨rfl,rfl,rfl,by decide+kernel,rfl,by decide+kernel,by decide+kernel⟩
theorem jP:aJ ["_law_turns","_law_draws_here","_law_names","_law_k","_law_at","_law_found","_law_p","_law_turn"] ["_law_turns","_law_draws_here"] (ar fq):=⟨rfl,rfl,rfl,by decide+kernel,rfl,by decide+kernel,by decide+kernel⟩
theorem jb:aJ ["_law_turns","_law_draws_here","_law_dyes_here","_law_none","_law_found","_law_p","_law_taken","_law_free"] ["_law_turns","_law_draws_here","_law_dyes_here","_law_none"] (ar cT):=⟨rfl,rfl,rfl,by decide+kernel,rfl,by decide+kernel,by decide+kernel⟩
theorem gN:aJ ["_law_turns","_law_dyeing_here","_law_p","_law_q"] ["_law_turns","_law_dyeing_here"] (ar eF):=⟨rfl,rfl,rfl,by decide+kernel,rfl,by decide+kernel,by decide+kernel⟩
theorem iN:aJ ["_law_turns","_law_number","_law_found","_law_turn","_law_at"] ["_law_turns","_law_number"] (ar dH):=⟨rfl,rfl,rfl,by decide+kernel,rfl,by decide+kernel,by decide+kernel⟩
theorem ku:aJ ["_law_cell","_law_many","_law_low"] ["_law_cell"] (ar gb):=⟨rfl,rfl,rfl,by decide+kernel,rfl,by decide+kernel,by decide+kernel⟩
theorem lZ:aJ ["_law_dyeing_here","_law_points","_law_one","_law_other","_law_found","_law_p","_law_dye"] ["_law_dyeing_here","_law_points","_law_one","_law_other"] (ar jJ):=⟨rfl,rfl,rfl,by decide+kernel,rfl,by decide+kernel,by decide+kernel⟩
theorem hV:aJ ["_law_dyeing_here","_law_points","_law_one","_law_other","_law_handed","_law_found"] ["_law_dyeing_here","_law_points","_law_one","_law_other"] (ar di):=⟨rfl,rfl,rfl,by decide+kernel,rfl,by decide+kernel,by decide+kernel⟩
theorem fF:aJ ["_law_turns","_law_dyeing_here","_law_p","_law_other","_law_one","_law_points","_law_found","_law_q"] ["_law_turns","_law_dyeing_here","_law_p","_law_other"] (ar dA):=⟨rfl,rfl,rfl,by decide+kernel,rfl,by decide+kernel,by decide+kernel⟩
theorem xx:aJ ["_law_script","_law_turns","_law_dyes_here","_law_dyeing_here","_law_points","_law_k","_law_found","_law_p","_law_others","_law_other"] ["_law_script"] (ar nj):=⟨rfl,rfl,rfl,by decide+kernel,rfl,by decide+kernel,by decide+kernel⟩
theorem iK:aJ ["self","turns","rows","fault"] ["self","turns"] (ar cD):=⟨rfl,rfl,rfl,by decide+kernel,rfl,by decide+kernel,by decide+kernel⟩
theorem kq:aJ ["self"] ["self"] (ar f9):=⟨rfl,rfl,rfl,by decide+kernel,rfl,by decide+kernel,by decide+kernel⟩
structure Txt (Z:DC) (mg:Str→Option Value) where
 B:GR mg
 x_set:mg "set"=none
 d_chain:dZ Z.K mg "chain" qt ["web","dyeing","p","dye"]
 d_exchanged:dZ Z.K mg "exchanged" i8 ["dyeing","points","one","other"]
 d_is_among:dZ Z.K mg "is_among" jL ["thing","many"]
 d_alien_fault:dZ Z.K mg "alien_fault" gJ ["rows"]
 d_self_fault:dZ Z.K mg "self_fault" iA ["rows"]
 d_twice_fault:dZ Z.K mg "twice_fault" gM ["rows"]
 d_lone_fault:dZ Z.K mg "lone_fault" iz ["rows"]
 d_reached_from_first:dZ Z.K mg "reached_from_first" bO ["rows"]
 d_apart_fault:dZ Z.K mg "apart_fault" gK ["rows"]
 d_first_fault:dZ Z.K mg "first_fault" gL ["rows"]
 d__law_cell_at:dZ Z.K mg "_law_cell_at" fN ["_law_script","_law_k"]
 d__law_reserve:dZ Z.K mg "_law_reserve" fO ["_law_cell","_law_k"]
 d__law_draws:dZ Z.K mg "_law_draws" iu ["_law_script","_law_at","_law_many"]
 d__law_lands:dZ Z.K mg "_law_lands" iw ["_law_turns"]
 d__law_places:dZ Z.K mg "_law_places" eG ["_law_land","_law_number"]
 d__law_grown:dZ Z.K mg "_law_grown" fo ["_law_turns","_law_land","_law_places_here"]
 d__law_web:dZ Z.K mg "_law_web" jK ["_law_draws_here"]
 d__law_named:dZ Z.K mg "_law_named" fq ["_law_turns","_law_draws_here"]
 d__law_dyeing:dZ Z.K mg "_law_dyeing" cT ["_law_turns","_law_draws_here","_law_dyes_here","_law_none"]
 d__law_is_dyeing:dZ Z.K mg "_law_is_dyeing" eF ["_law_turns","_law_dyeing_here"]
 d__law_twisted:dZ Z.K mg "_law_twisted" dH ["_law_turns","_law_number"]
 d__law_dyes:dZ Z.K mg "_law_dyes" gb ["_law_cell"]
 d__law_due:dZ Z.K mg "_law_due" jJ ["_law_dyeing_here","_law_points","_law_one","_law_other"]
 d__law_exchange:dZ Z.K mg "_law_exchange" di ["_law_dyeing_here","_law_points","_law_one","_law_other"]
 d__law_chain_right:dZ Z.K mg "_law_chain_right" dA ["_law_turns","_law_dyeing_here","_law_p","_law_other"]
 d_law:dZ Z.K mg "law" nj ["_law_script"]
 W:y2 Z
 mC:mg "Web"=some (.ref Z.C)
 i_f:Addr
 i_fd:FuncData
 i_F:qH Z.K "__init__" "Web.__init__" cD i_f i_fd
 mkW:Mk Z.K Z.C i_f
 m___init__b:Binds Z.K i_fd ["self","turns"] []
 m_many:vc Z "many" "Web.many" nQ ["self"]
 m_turns:vc Z "turns" "Web.turns" f9 ["self"]
 m_ties:vc Z "ties" "Web.ties" nU ["self"]
 m_tied:vc Z "tied" "Web.tied" nS ["self","a","b"]
 m_behind:vc Z "behind" "Web.behind" ko ["self","p","q"]
 c_MOST_POINTS:∃tk,mg "MOST_POINTS"=some (.int 14 tk)
variable {P:Program} {w:World} {mg:Str→Option Value} {base:Heap} {Z:DC} (T:Txt Z mg)
def A9:cp:=λds P=>∃(i n:Int),ds= [.int i, .int n]∧P (.bl (decide (0≤i∧i<n)))
theorem sR:FnOk P w Z.K mg base bQ 1 T.d_is_among.f T.d_is_among.fd ["thing","many"] (aU Z A9):=by
 have nd:=me.nd;refine bc T.d_is_among.F me [0,0] (by decide) (λds R h=>by obtain ⟨_,_,rfl,_⟩:=h;rfl) (λbg A outer s H E ds R hr h=>?_)
 have hu:=hr.units;refine ⟨_,(ah (aL (w4 (oJ "int" (aa 0) rfl T.B.isinstance rfl T.B.int Bz) (w4 (BF (oJ "bool" (aa 0) rfl T.B.isinstance rfl T.B.bool tP)) (BG (xV wb wc aq (aa 0) (aa 1))))))),?_⟩;obtain ⟨i,n,rfl,q⟩:=h;refine ⟨_,rfl,rfl,true,rfl,cq ⟨_,rfl,rfl,false,rfl,true,rfl,cq ⟨_,rfl,?_⟩⟩⟩;refine ⟨_,rfl,bw (λh0=>⟨_,rfl,?_⟩) (λh0=>?_)⟩
 ·have h0:0≤i:=of_decide_eq_true h0
  show R (.bl (decide (i<n)));rw [show decide (i<n)=decide (0≤i∧i<n) by simp [h0]]
  exact q
 ·have h0:¬0≤i:=of_decide_eq_false h0
  rw [show decide (0≤i∧i<n)=false by simp [h0]] at q
  exact q
def j9:cp:=λds P=>∃(w:W),ds= [aC w]∧Good w∧1≤w.length∧w.length≤14∧P .aT
theorem xE{w:W}{j:Nat}{d:D}(h:(jA (w.map ao))[j]? =some d):j<w.length∧d= .tup [.int (j:Int),ao (row w j)]:=by
 obtain ⟨x,hx,rfl⟩:=kG h;obtain ⟨r,hr,rfl⟩:=cj hx;have hj:j<w.length:=(eo.mp hr).1;refine ⟨hj,?_⟩;rw [C1 hr]
theorem oA:FnOk P w Z.K mg base bQ 2 T.d_alien_fault.f T.d_alien_fault.fd ["rows"] (aU Z j9):=by
 have nd:=jd.nd;refine bc T.d_alien_fault.F jd [0,0,0,0] (by decide) (λds R h=>by obtain ⟨_,rfl,_⟩:=h;rfl) (λbg A outer s H E ds R hr h=>?_)
 have hu:=hr.units
 refine ⟨_,(ae (cL rfl PassesOwn.never (iD rfl T.B.enumerate (ab (aa 0) af)) (jZ 2 rfl (bS (aM 1 nd) (bS (aM 2 nd) gf))) (ah (cL rfl PassesOwn.never (bu (aa 2)) (aM 3 nd) (ah (aX (iV (fe (ay T.d_is_among (sR T) hr (ab (aa 3) (ab (aH ba rfl T.B.len aZ (ab (aa 0) af)) af))))) (ah (aL (fb (ab lC (ab (aa 1) (ab (aa 3) af)))))) aF)))))
   (ah (aL bL))),?_⟩
 obtain ⟨w',rfl,g,h1,cf,q⟩:=h;refine ⟨_,rfl,bK (λ_ ρ=>∃o1 o2 o3,ρ= [some (aC w'),o1,o2,o3]) ⟨_,_,_,rfl⟩ ?_ ?_⟩
 ·rintro j d _ hd ⟨o1,o2,o3,rfl⟩ A hA
  obtain ⟨hj,rfl⟩:=xE hd;refine ⟨rfl,rfl,?_⟩;refine ⟨_,rfl,bK (λ_ ρ=>∃o3,ρ= [some (aC w'),some (.int (j:Int)),some (ao (row w' j)),o3]) ⟨_,rfl⟩ ?_ ?_⟩
  ·rintro k d' _ hk ⟨o4,rfl⟩ A' zP
   obtain ⟨x,hx,rfl⟩:=cj hk;refine ⟨_,rfl,_,rfl,_,_,rfl,⟨rfl,?_⟩⟩;have eC:x<w'.length:=g.rng _ _ (eJ hx);rw [show decide ((0:Int)≤(x:Int)∧(x:Int)<((w'.map ao).length:Int))=true by simp;omega]
   exact bX (zP _ ⟨_,rfl⟩)
  ·rintro _ ⟨o4,rfl⟩
   exact hA _ ⟨_,_,_,rfl⟩
 ·rintro _ ⟨o1,o2,o3,rfl⟩
  exact q
theorem qj:FnOk P w Z.K mg base bQ 1 T.d_self_fault.f T.d_self_fault.fd ["rows"] (aU Z j9):=by
 have nd:=jR.nd;refine bc T.d_self_fault.F jR [0,0,0] (by decide) (λds R h=>by obtain ⟨_,rfl,_⟩:=h;rfl) (λbg A outer s H E ds R hr h=>?_)
 have hu:=hr.units
 refine ⟨_,(ae (cL rfl PassesOwn.never (iD rfl T.B.enumerate (ab (aa 0) af)) (jZ 2 rfl (bS (aM 1 nd) (bS (aM 2 nd) gf))) (ah (aX (aD qd (aa 1) (aa 2) (by with_unfolding_all rfl)) (ah (aL (fb (ab lC (ab (aa 1) (ab (aa 1) af)))))) aF)))
   (ah (aL bL))),?_⟩
 obtain ⟨w',rfl,g,h1,cf,q⟩:=h;refine ⟨_,rfl,bK (λ_ ρ=>∃o1 o2,ρ= [some (aC w'),o1,o2]) ⟨_,_,rfl⟩ ?_ ?_⟩
 ·rintro j d _ hd ⟨o1,o2,rfl⟩ A hA
  obtain ⟨hj,rfl⟩:=xE hd;refine ⟨rfl,rfl,?_⟩;refine ⟨_,rfl,_,rfl,rfl,cF _,_,rfl,?_⟩
  have e:inD (.int (j:Int)) ((row w' j).map ag)=false:=by
   have:=jE (r:=row w' j) (p:=j)
   rw [decide_eq_false (g.irr j)] at this;exact this
  rw [if_neg dP,e];exact bX (hA _ ⟨_,_,rfl⟩)
 ·rintro _ ⟨o1,o2,rfl⟩
  exact q
theorem iT{α:Type}(l:List α)(k:Nat)(h:k≤l.length):cutD l none (some (k:Int))=l.take k:=by
 unfold cutD;have e1:HT.br l.length 0 none=0:=rfl
 have e2:HT.br l.length l.length (some (k:Int))=k:=by
  simp only [HT.br]
  split<;>omega
 rw [e1,e2];simp
theorem oE:FnOk P w Z.K mg base bQ 1 T.d_twice_fault.f T.d_twice_fault.fd ["rows"] (aU Z j9):=by
 have nd:=jg.nd;refine bc T.d_twice_fault.F jg [0,0,0,0,0] (by decide) (λds R h=>by obtain ⟨_,rfl,_⟩:=h;rfl) (λbg A outer s H E ds R hr h=>?_)
 have hu:=hr.units
 refine ⟨_,(ae (cL rfl PassesOwn.never (iD rfl T.B.enumerate (ab (aa 0) af)) (jZ 2 rfl (bS (aM 1 nd) (bS (aM 2 nd) gf))) (ah (cL rfl PassesOwn.never (iD rfl T.B.enumerate (ab (aa 2) af)) (jZ 2 rfl (bS (aM 3 nd) (bS (aM 4 nd) gf))) (ah (aX (aD qd (aa 4) (eX (aa 2) gu (gw (aa 3))) (by with_unfolding_all rfl)) (ah (aL (fb (ab lC (ab (aa 1) (ab (aa 4) af)))))) aF)))))
   (ah (aL bL))),?_⟩
 obtain ⟨w',rfl,g,h1,cf,q⟩:=h;refine ⟨_,rfl,bK (λ_ ρ=>∃o1 o2 o3 o4,ρ= [some (aC w'),o1,o2,o3,o4]) ⟨_,_,_,_,rfl⟩ ?_ ?_⟩
 ·rintro j d _ hd ⟨o1,o2,o3,o4,rfl⟩ A hA
  obtain ⟨hj,rfl⟩:=xE hd;refine ⟨rfl,rfl,?_⟩;refine ⟨_,rfl,bK (λ_ ρ=>∃o3 o4,ρ= [some (aC w'),some (.int (j:Int)),some (ao (row w' j)),o3,o4]) ⟨_,_,rfl⟩ ?_ ?_⟩
  ·rintro k d' _ hk ⟨o5,o6,rfl⟩ A' zP
   obtain ⟨y,hy,rfl⟩:=kG hk;obtain ⟨x,hx,rfl⟩:=cj hy;have iG:k<(row w' j).length:=(eo.mp hx).1;refine ⟨rfl,rfl,?_⟩;refine ⟨_,rfl,_,rfl,_,rfl,?_⟩;have ec:cutD ((row w' j).map ag) none (some (k:Int))=((row w' j).take k).map ag:=by rw [iT _ _ (by simp;omega),rX]
   refine (?_:BB false (ag x) (.lst (cutD ((row w' j).map ag) none (some (k:Int)))) _);rw [ec];refine ⟨rfl,cF _,_,rfl,?_⟩
   have e:inD (ag x) (((row w' j).take k).map ag)=false:=by
    rw [jE,decide_eq_false];intro z;obtain ⟨m,hm⟩:=u0 z
    have vM:m<k:=by
     have:=(eo.mp hm).1
     rw [ji] at this;omega
    rw [xG vM] at hm;exact absurd ((List.getElem?_inj (by omega) (g.nod j)).mp (hm.trans hx.symm)) (by omega)
   rw [if_neg dP,e];exact bX (zP _ ⟨_,_,rfl⟩)
  ·rintro _ ⟨o5,o6,rfl⟩
   exact hA _ ⟨_,_,_,_,rfl⟩
 ·rintro _ ⟨o1,o2,o3,o4,rfl⟩
  exact q
theorem qi:FnOk P w Z.K mg base bQ 1 T.d_lone_fault.f T.d_lone_fault.fd ["rows"] (aU Z j9):=by
 have nd:=jQ.nd;refine bc T.d_lone_fault.F jQ [0,0,0,0] (by decide) (λds R h=>by obtain ⟨_,rfl,_⟩:=h;rfl) (λbg A outer s H E ds R hr h=>?_)
 have hu:=hr.units
 refine ⟨_,(ae (cL rfl PassesOwn.never (iD rfl T.B.enumerate (ab (aa 0) af)) (jZ 2 rfl (bS (aM 1 nd) (bS (aM 2 nd) gf))) (ah (cL rfl PassesOwn.never (bu (aa 2)) (aM 3 nd) (ah (aX (aD mV (aa 1) (aB (aa 0) (aa 3)) (by with_unfolding_all rfl)) (ah (aL (fb (ab lC (ab (aa 1) (ab (aa 3) af)))))) aF)))))
   (ah (aL bL))),?_⟩
 obtain ⟨w',rfl,g,h1,cf,q⟩:=h;refine ⟨_,rfl,bK (λ_ ρ=>∃o1 o2 o3,ρ= [some (aC w'),o1,o2,o3]) ⟨_,_,_,rfl⟩ ?_ ?_⟩
 ·rintro j d _ hd ⟨o1,o2,o3,rfl⟩ A hA
  obtain ⟨hj,rfl⟩:=xE hd;refine ⟨rfl,rfl,?_⟩;refine ⟨_,rfl,bK (λ_ ρ=>∃o3,ρ= [some (aC w'),some (.int (j:Int)),some (ao (row w' j)),o3]) ⟨_,rfl⟩ ?_ ?_⟩
  ·rintro k d' _ hk ⟨o4,rfl⟩ A' zP
   obtain ⟨x,hx,rfl⟩:=cj hk;have JN:=eJ hx;have eC:x<w'.length:=g.rng _ _ JN;refine ⟨_,rfl,_,rfl,_,rfl,_,dR (mj eC),rfl,cF _,_,rfl,?_⟩
   have e:inD (.int (j:Int)) ((row w' x).map ag)=true:=by
    have:=jE (r:=row w' x) (p:=j)
    rw [decide_eq_true (g.sym _ _ JN)] at this;exact this
   rw [if_pos rfl,e];exact bX (zP _ ⟨_,rfl⟩)
  ·rintro _ ⟨o4,rfl⟩
   exact hA _ ⟨_,_,_,rfl⟩
 ·rintro _ ⟨o1,o2,o3,rfl⟩
  exact q
def ph(bs:List Bool):List D:=bs.map D.bl
theorem za{bs:List Bool}{i:Nat}{b:Bool}(h:bs[i]? =some b):(ph bs)[i]? =some (.bl b):=by unfold ph;rw [cU,h];rfl
theorem tS(bs:List Bool)(i:Nat)(b:Bool):(ph bs).set i (.bl b)=ph (bs.set i b):=by unfold ph;rw [qE]
theorem tR(bs:List Bool):(ph bs).length=bs.length:=aW _
theorem rA{n k:Nat}(h:k<n):ee n (k:Int)=some k:=by unfold ee;rw [if_pos (by omega),if_pos (by omega)];simp
def wC:cp:=λds P=>∃(w:W),ds= [aC w]∧Good w∧1≤w.length∧w.length≤14∧P (.lst (ph (List.replicate w.length true)))
theorem i6:FnOk P w Z.K mg base bQ 1 T.d_reached_from_first.f T.d_reached_from_first.fd ["rows"] (aU Z wC):=by
 have nd:=eH.nd;refine bc T.d_reached_from_first.F eH [0,1,1,0,0] (by decide) (λds R h=>by obtain ⟨_,rfl,_⟩:=h;rfl) (λbg A outer s H E ds R hr h=>?_)
 have hu:=hr.units
 refine ⟨_,(ae (qY 1 (NC:= ["row"]) (src:= [none]) rfl nd (lA (ar bO)) trivial (bu (aa 0)) (λ_ _ _=>(bW 0 (show (["row"]:List Str).Nodup from by decide+kernel))) (λ_ _ _=>fB) (λ_ _ _=>eB))
   (ae (gd false 1 aq eB)
   (ae (cZ 2 nd (fY (ab aq af)))
   (ae (mK PassesOwn.never (fe (aa 2)) (ae (w9 3 2 nd)
   (ah (cL rfl PassesOwn.never (bu (aB (aa 0) (aa 3))) (aM 4 nd) (ah (aX (iV (fe (aB (aa 1) (aa 4)))) (ae (gd false 1 (aa 4) eB)
   (ah (g7 false 2 (aa 4)))) aF))))))
   (ah (aL (aa 1))))))),?_⟩
 obtain ⟨w',rfl,g,h1,cf,q⟩:=h;refine ⟨_,rfl,hC (ρ:= [none]) ao (λ_=> .bl false) w' _ (λy hy Y h=>h) rfl (small (by omega)) λaz=>?_⟩
 have e0:w'.map (λ_=>D.bl false)=ph (List.replicate w'.length false):=by unfold ph;rw [List.map_replicate,List.map_const']
 rw [e0];refine ⟨trivial,_,rfl,0,0,rfl,by rw [tR,qy];exact rA (k:=0) (by omega),?_⟩
 rw [tS];refine ⟨by show 1≤sizeLine;decide,?_⟩
 refine lb (λm ρ=>∃(bs:List Bool)(ws:List Nat)(o3 o4:Option D),ρ= [some (aC w'),some (.lst (ph bs)),some (.lst (ws.map ag)),o3,o4]∧RI w' bs ws [] m∧m≤14∧bs.count false+ws.length=m) w'.length ?_ ?_
 ·refine ⟨_,[0],none,none,rfl,⟨by simp,?_,?_,λx hx=>?_,?_⟩,cf,?_⟩
  ·rw [n6,if_pos rfl,if_pos (by rw [qy];omega)]
  ·intro x hx
   have:x=0:=by simpa using hx
   rw [this,n6,if_pos rfl,if_pos (by rw [qy];omega)]
  ·by_cases e:0=x
   ·exact .inl (by rw [←e];simp)
   ·rw [n6,if_neg e,rT] at hx
    split at hx<;>cases hx
  ·rw [List.count_set (by rw [qy];omega),List.count_replicate_self,List.getElem_replicate]
   simp;omega
  ·rw [List.count_set (by rw [qy];omega),List.count_replicate_self,List.getElem_replicate]
   simp;omega
 ·rintro m _ ⟨bs,ws,o3,o4,rfl,ri,hc,Jr⟩
  refine ⟨_,rfl,rfl,?_⟩
  rcases List.eq_nil_or_concat ws with rfl| ⟨mr,p,e⟩
  ·refine bX ?_
   have e:=ri.all g;rw [←e] at q;exact ⟨_,rfl,q⟩
  ·rw [List.concat_eq_append] at e
   subst e;rw [show rQ (.lst ((mr++ [p]).map ag))=true by simp [rQ]]
   refine cq ?_;rw [cK] at Jr;simp only [mv] at Jr;obtain ⟨c',rfl⟩:∃c',m=c'+1:=⟨m-1,by omega⟩
   have RV:=ri.pop;have hp:bs[p]? =some true:=ri.wt p (by simp)
   have OV:p<w'.length:=by rw [←ri.len];exact (eo.mp hp).1
   refine ⟨mr.map ag,ag p,by rw [cM];rfl,?_⟩
   refine ⟨_,rfl,_,rfl,_,dR (mj OV),bK (λj ρ=>∃(lu:List Bool)(qU:List Nat)(o4:Option D),ρ= [some (aC w'),some (.lst (ph lu)),some (.lst (qU.map ag)),some (ag p),o4]∧RI w' lu qU [p] c'∧(∀k y,k<j→(row w' p)[k]? =some y→lu[y]? =some true)∧lu.count false+qU.length=c') ?_ ?_ ?_⟩
   ·exact ⟨bs,mr,_,rfl,RV,(λk n hk=>by omega),by omega⟩
   ·rintro j x _ hx ⟨lu,qU,o5,rfl,A1,w6,ED⟩ A hA
    obtain ⟨n,hn,rfl⟩:=cj hx;have OP:=g.rng _ _ (eJ hn);have FT:n<lu.length:=by rw [A1.len];exact OP
    have zR:lu[n]? =some (lu[n]):=eN FT;refine ⟨_,rfl,_,rfl,_,dR (za zR),rfl,?_⟩;generalize lu[n]=bn at zR;cases bn with
    |true=>
     refine bX (hA _ ⟨lu,qU,_,rfl,A1,λk y hk hy=>?_,ED⟩)
     by_cases e:k=j
     ·rw [e,hn] at hy;cases hy;exact zR
     ·exact w6 k y (by omega) hy
    |false=>
     refine cq ?_;refine ⟨trivial,_,rfl,_,rfl,_,n,rfl,by rw [tR];exact rA FT,?_⟩
     rw [tS];have C0:=A1.push zR;have Sn:=C0.cnt;refine ⟨_,rfl,_,rfl,trivial,b4 (by rw [aW];omega),?_⟩
     have er:qU.map ag++ [ag n]=(qU++ [n]).map ag:=by rw [cM];rfl
     rw [er];refine hA _ ⟨lu.set n true,qU++ [n],_,rfl,C0,λk y hk hy=>?_,?_⟩
     ·rw [n6]
      by_cases e:n=y
      ·rw [if_pos e,if_pos FT]
      ·rw [if_neg e]
       refine w6 k y ?_ hy;apply Classical.byContradiction;intro z
       have:k=j:=by omega
       rw [this,hn] at hy;cases hy;exact e rfl
     ·obtain ⟨hl,he⟩:=eo.mp zR
      have:0<lu.count false:=List.count_pos_iff.mpr (by rw [←he];exact og hl)
      rw [List.count_set hl,he,cK];simp;omega
   ·rintro _ ⟨lu,qU,o5,rfl,A1,w6,ED⟩
    have C0:=A1.close λy hy=>by
     obtain ⟨k,hk⟩:=u0 hy;exact w6 k y (by rw [aW];exact (eo.mp hk).1) hk
    exact ⟨c',by omega,lu,qU,_,_,rfl,C0,by omega,ED⟩
theorem oB:FnOk P w Z.K mg base bQ 2 T.d_apart_fault.f T.d_apart_fault.fd ["rows"] (aU Z j9):=by
 have nd:=je.nd;refine bc T.d_apart_fault.F je [0,0,0] (by decide) (λds R h=>by obtain ⟨_,rfl,_⟩:=h;rfl) (λbg A outer s H E ds R hr h=>?_)
 have hu:=hr.units
 refine ⟨_,(ae (cL rfl PassesOwn.never (iD rfl T.B.enumerate (ab (ay T.d_reached_from_first (i6 T) hr (ab (aa 0) af)) af)) (jZ 2 rfl (bS (aM 1 nd) (bS (aM 2 nd) gf))) (ah (aX (iV (fe (aa 2))) (ah (aL (fb (ab lC (ab aq (ab (aa 1) af)))))) aF)))
   (ah (aL bL))),?_⟩
 obtain ⟨w',rfl,g,h1,cf,q⟩:=h;refine ⟨_,rfl,w',rfl,g,h1,cf,bK (λ_ ρ=>∃o1 o2,ρ= [some (aC w'),o1,o2]) ⟨_,_,rfl⟩ ?_ ?_⟩
 ·rintro j d _ hd ⟨o1,o2,rfl⟩ A hA
  obtain ⟨y,hy,rfl⟩:=kG hd
  have ey:y= .bl true:=by
   obtain ⟨b,hb,rfl⟩:=cj hy
   have:=eJ hb
   rw [List.mem_replicate] at this;rw [this.2]
  subst ey;refine ⟨rfl,rfl,?_⟩;exact ⟨_,rfl,rfl,bX (hA _ ⟨_,_,rfl⟩)⟩
 ·rintro _ ⟨o1,o2,rfl⟩
  exact q
theorem ja:FnOk P w Z.K mg base bQ 3 T.d_first_fault.f T.d_first_fault.fd ["rows"] (aU Z j9):=by
 have nd:=jf.nd;refine bc T.d_first_fault.F jf [0,0] (by decide) (λds R h=>by obtain ⟨_,rfl,_⟩:=h;rfl) (λbg A outer s H E ds R hr h=>?_)
 have hu:=hr.units
 refine ⟨_,(ae (aG false 1 nd (ay T.d_alien_fault (oA T) hr (ab (aa 0) af)))
   (ae (aX (aD kQ (aa 1) bL (aN _)) (ah (aG false 1 nd (ay T.d_self_fault (qj T) hr (ab (aa 0) af)))) aF)
   (ae (aX (aD kQ (aa 1) bL (aN _)) (ah (aG false 1 nd (ay T.d_twice_fault (oE T) hr (ab (aa 0) af)))) aF)
   (ae (aX (aD kQ (aa 1) bL (aN _)) (ah (aG false 1 nd (ay T.d_lone_fault (qi T) hr (ab (aa 0) af)))) aF)
   (ae (aX (aD kQ (aa 1) bL (aN _)) (ah (aG false 1 nd (ay T.d_apart_fault (oB T) hr (ab (aa 0) af)))) aF)
   (ah (aL (aa 1)))))))),?_⟩
 obtain ⟨w',rfl,g,h1,cf,q⟩:=h;have no:∀(u:bP)(E:cv)(ρ:DN)(te:aQ),ρ[1]? =some (some .aT)→E.nx ρ→pA (sj (xU (wX false) (zr 1) (dC .aT))) u kD E ρ→True:=λ_ _ _ _ _ _ _=>trivial;refine ⟨_,rfl,w',rfl,g,h1,cf,trivial,?_⟩;refine ⟨_,rfl,_,rfl,cq ⟨_,rfl,w',rfl,g,h1,cf,trivial,?_⟩⟩;refine ⟨_,rfl,_,rfl,cq ⟨_,rfl,w',rfl,g,h1,cf,trivial,?_⟩⟩;refine ⟨_,rfl,_,rfl,cq ⟨_,rfl,w',rfl,g,h1,cf,trivial,?_⟩⟩;refine ⟨_,rfl,_,rfl,cq ⟨_,rfl,w',rfl,g,h1,cf,trivial,?_⟩⟩;exact ⟨_,rfl,q⟩
theorem mX{P:Program}{w:World}{mg:Str→Option Value}{base:Heap}{Z:DC}(T:Txt Z mg):FnOk P w Z.K mg base bQ 4 T.i_f T.i_fd ["self","turns"] (uO Z):=by
 have zM:=ja (P:=P) (w:=w) (base:=base) T;have nd:=iK.nd;refine T.i_F.ok iK (λvs H Q E h=>?_) (λbg A outer s H vs Q E hr h=>?_)
 ·obtain ⟨p,dx,v,G,w',rfl,_⟩:=h;rfl
 obtain ⟨p,dx,v,G,w',rfl,hp,sG,gp,dv,g,h1,cf,q⟩:=h;have hu:=hr.units
 refine ⟨_,dU (t:=kN Z [0,0,0,0] 0 _)
   (aX (iV (xZ wb wb aq (aH ba rfl T.B.len aZ (ab (aa 1) af)) (xW rfl T.c_MOST_POINTS))) (ah jY) aF)
  (dU (t:=kN Z [0,0,0,0] 0 _)
   (mJ 2 (NC:= ["row"]) (src:= [none]) rfl nd (lA (ar cD)) trivial (bu (aa 1)) (λ_ _ _=>(bW 0 (show (["row"]:List Str).Nodup from by decide+kernel))) (λ_ _ _=>fB) (λ_ _ _=>(iU lz rfl T.B.list dD (ab (aa 0) af))))
  (dU (t:=kN Z [0,0,0,0] 0 _)
   (aG false 3 nd (ay T.d_first_fault (ja T) hr (ab (aa 2) af)))
  (dU (t:=kN Z [0,0,0,0] 0 _)
   (aX (aD j6 (aa 3) bL (aN _)) (ah jY) aF)
  (qp (CQ (pv 0) (pv 2) rfl))))),?_⟩
 have lw:(w'.map ao).length=w'.length:=aW _;refine ⟨⟨G,H,G⟩,[some (.obj p),some (aC w'),none,none],{nx:=λρ=>ρ= [some (.obj p),some (aC w'),none,none],rt:=λ_=>False},⟨G,λ_=> [],?_⟩,?_,⟨?_,λ_ z=>z.elim,λ_ z=>z.elim,λ_ z=>z.elim⟩⟩
 ·refine ⟨.refl sG, .refl _,rfl,λi d hi=>?_,λ_=>fW,(λ_ _ _ _ z=>by cases z),(λ_ _ z=>by cases z)⟩
  match i,hi with
  |0,hi=>cases hi;exact ⟨_,rfl, .obj p,rfl⟩
  |1,hi=>cases hi;exact ⟨_,rfl,dv,rfl⟩
  |2,hi=>cases hi
  |3,hi=>cases hi
  |i+4,hi=>cases hi
 ·have e1:D.bl (decide ((1:Int)≤((w'.map ao).length:Int)))= .bl true:=congrArg D.bl (decide_eq_true (by rw [lw];omega))
  have e2:D.bl (decide (((w'.map ao).length:Int)≤14))= .bl true:=congrArg D.bl (decide_eq_true (by rw [lw];omega))
  exact ⟨_,rfl,true,e1,cq ⟨true,e2,bX rfl⟩⟩
 rintro _ rfl wQ H1 S1;refine ⟨⟨G,H,G⟩,_,{nx:=λρ=>ρ= [some (.obj p),some (aC w'),some (aC w'),none],rt:=λ_=>False},S1,?_,⟨?_,λ_ z=>z.elim,λ_ z=>z.elim,λ_ z=>z.elim⟩⟩
 ·exact ⟨_,rfl,hC (ρ:= [none]) ao ao w' _ (λy hy Y h=>⟨_,rfl,h⟩) rfl (small (by omega)) λaz=>⟨trivial,rfl⟩⟩
 rintro _ rfl gS H2 S2;refine ⟨⟨G,H,G⟩,_,{nx:=λρ=>ρ= [some (.obj p),some (aC w'),some (aC w'),some .aT],rt:=λ_=>False},S2,?_,⟨?_,λ_ z=>z.elim,λ_ z=>z.elim,λ_ z=>z.elim⟩⟩
 ·exact ⟨_,rfl,w',rfl,g,h1,cf,trivial,rfl⟩
 rintro _ rfl oH H3 S3;refine ⟨⟨G,H,G⟩,_,{nx:=λρ=>ρ= [some (.obj p),some (aC w'),some (aC w'),some .aT],rt:=λ_=>False},S3,?_,⟨?_,λ_ z=>z.elim,λ_ z=>z.elim,λ_ z=>z.elim⟩⟩
 ·exact ⟨_,rfl,_,rfl,bX rfl⟩
 rintro _ rfl jr H4 ⟨G4,fp,S4⟩;obtain ⟨v0,jD,o0⟩:=S4.at_ 0 _ rfl;obtain ⟨v2,O0,o2⟩:=S4.at_ 2 _ rfl;obtain ⟨d0,_⟩:=o0;obtain ⟨d2,_⟩:=o2;cases d0;have NA:=d2;cases d2 with
 | @lst R xs ds hR e=>
  have OT:=S4.ex.hh _ _ hp;refine ⟨_,O0,_,jD,p,Z.C,dx,[],rfl,OT,T.W.cl,T.W.nR,by decide,?_⟩
  have g4:G4 p=none:=S4.ex.off p (by show H p≠none;rw [hp];exact λz=>nomatch z) gp
  refine q R G4 _ S4.ex.gg (λb o eb=>?_) (λb o eb nb=>?_) S4.ex.off av NA
  ·rw [ax (aS eb g4)];exact S4.ex.sub _ _ eb
  ·rw [ax nb];exact S4.ex.hh _ _ eb
def Bf:cp:=λds P=>∃(w:W),ds= [.iO w]∧w.length≤14∧P (aC w)
theorem qN:FnOk P w Z.K mg base bQ 1 T.m_turns.f T.m_turns.fd ["self"] (aU Z Bf):=by
 have nd:=kq.nd;refine bc T.m_turns.F kq [0] (by decide) (λds R h=>by obtain ⟨_,rfl,_⟩:=h;rfl) (λbg A outer s H E ds R hr h=>?_)
 have hu:=hr.units;refine ⟨_,(ah (aL (pE (NC:= ["row"]) (src:= [none]) rfl (lA (ar f9)) trivial (bu (zw T.W (aa 0))) (λ_ _ _=>(bW 0 (show (["row"]:List Str).Nodup from by decide+kernel))) (λ_ _ _=>fB) (λ_ _ _=>(iU lz rfl T.B.list dD (ab (aa 0) af)))))),?_⟩
 obtain ⟨w',rfl,cf,q⟩:=h;exact ⟨_,rfl,w',rfl,hC (ρ:= [none]) ao ao w' _ (λy hy Y h=>⟨_,rfl,h⟩) rfl (small (by omega)) λaz=>q⟩
end yX
namespace PySem
namespace F
theorem v8:typeLookup (.type "list_reverseiterator") "__len__"=pure none:=by rw [typeLookup_type,builtinLookup_eq_fast];kernel_rfl
theorem yj:typeLookup (.type "list_reverseiterator") "__length_hint__"=pure (some (.builtin "list_reverseiterator.__length_hint__")):=by rw [typeLookup_type,builtinLookup_eq_fast];kernel_rfl
end F
section
variable {prog:Program} {w:World} {A:Around} {s:Shared} {R:Result→Shared→Prop}
variable {I:Addr} {fp wr:List Addr} {G:Array GenState→Array GenState→Prop} {n:Nat} {P:Nat→Value→Prop} {St:Nat→Shared→Prop}
theorem ua(W:WalksS prog w A.in1 I fp wr G n P St)(hT:∀i s,St i s→s.TypeIs (.ref I) "list_reverseiterator")(S:Addr)(res:Value)(c₀:Nat)(lM:St 0 s)(vD:S∉fp)(hI:I∈fp)
  (hS:s.heap.get? S=some {cls:= .type "list",data:= .seq #[] c₀})
  (hR:∀s' bV c',Moved (S::wr) G s s'→s'.heap.get? S=some {cls:= .type "list",dict:=none,data:= .seq bV c',slots:= #[]}→ItemsOf P bV n→R (.ok (.ret res)) s') (hn:n≤sizeLine):
  wpAny (model prog w) A.in1 (Builtin.List.listExtendWith (.ref S) (.ref I) res)
   (λfin s'=>match fin with| .done f=>R (.ok f) s'| .again c'=>c'.quiet=true∧codeAny (model prog w) A c' R s') (λe s'=>R (.error e) s') s:=by
 have BY:S≠I:=λe=>vD (e▸hI);unfold Builtin.List.listExtendWith;refine wpAny_bind (wpAny_typeOf (hT 0 _ lM) ?_);have h1:Builtin.List.listSameRef (.ref S) (.ref I)=false:=by simp [Builtin.List.listSameRef,BY]
 have h2:(Value.type "list_reverseiterator"==Value.type "list")=false:=by decide
 have h3:(Value.type "list_reverseiterator"==Value.type "tuple")=false:=by decide
 simp only [h1,h2,h3,Bool.or_false,u3,if_false];refine wpAny_bind (W.self 0 _ _ _ lM ?_);refine wpAny_bind (wpAny_holding ?_);unfold Builtin.List.listLengthHint;refine wpAny_bind (wpAny_specialOf (hT 0 _ lM) F.v8 ?_);show wpAny _ A.in1 (specialOf (Value.ref I) (Str.ofString "__length_hint__")>>=_) _ _ _;refine wpAny_bind (wpAny_specialOf (hT 0 _ lM) F.yj ?_);generalize yh:("list_reverseiterator.__length_hint__":String)=B7
 wp_delta
 rw [show splitId B7=some ("list_reverseiterator","__length_hint__") from by subst yh;decide+kernel]
 subst yh;refine wpAny_bind (wpAny_isInstance (b:=true) (hT 0 _ lM) (by rw [isSubtype_type];kernel_rfl) ?_)
 refine wpAny_pure ?_;rw [if_neg (by decide)]
 exact wpAny_pure ⟨plainId_quiet F.plain_extend_loop _,codeAny_extend_loopS W hn _ vD _ n 0 _ _ _ rfl (fI _) lM hS (ItemsOf.nil P) hR⟩
theorem p6(W:WalksS prog w A.in1 I fp wr G n P St)(hT:∀i s,St i s→s.TypeIs (.ref I) "list_reverseiterator")(S:Addr)(lM:St 0 s)(vD:S∉fp)(hI:I∈fp)
  (hS:s.heap.get? S=some {cls:= .type "list",data:= .seq #[]})
  (hR:∀s' bV c',Moved (S::wr) G s s'→s'.heap.get? S=some {cls:= .type "list",dict:=none,data:= .seq bV c',slots:= #[]}→ItemsOf P bV n→R (.ok (.ret .none)) s') (hn:n≤sizeLine):
  wpAny (model prog w) A.in1 (Builtin.«list.__init__» ⟨[.ref S, .ref I],[]⟩)
   (λfin s'=>match fin with| .done f=>R (.ok f) s'| .again c'=>c'.quiet=true∧codeAny (model prog w) A c' R s') (λe s'=>R (.error e) s') s:=by
 show wpAny _ A.in1 (do let old ←Builtin.List.listItems (.ref S);Builtin.List.listUpdate (.ref S) (λ_=> #[]);letGo old.toList.reverse;Builtin.List.listExtendWith (.ref S) (.ref I) .none) _ _ s
 refine wpAny_bind ?_;unfold Builtin.List.listItems;refine wpAny_bind (wpAny_seqItems hS rfl (wpAny_pure ?_));show wpAny _ A.in1 (updateSeq S (λ_=> #[])>>=λ_=>letGo (#[]:Array Value).toList.reverse>>=λ_=>Builtin.List.listExtendWith (.ref S) (.ref I) .none) _ _ s;refine wpAny_bind (wpAny_updateSeq hS rfl ?_);have sA:=Heap.get?_update_self (Obj.mapSeq (λ_=>(#[]:Array Value))) hS rfl
 have yz:∀b o,b≠S→s.heap.get? b=some o→(s.heap.update S (Obj.mapSeq (λ_=>(#[]:Array Value)))).get? b=some o:=
  λb o hb e=>(Heap.get?_update_other _ _ (Ne.symm hb)).trans e
 refine wpAny_bind (wpAny_letGo ?_);refine ua W hT S .none _ (W.frame 0 s _ s.toks lM (bC _) λb hb o e=>yz b o (λh=>vD (h▸hb)) e) vD hI sA (λs' bV c' hm sy lJ=>?_) hn;exact hR s' bV c' (Moved.trans W.gtrans ((Moved.refl W.grefl).then_heap (bC _) λb o hb e=>yz b o (λh=>hb (h▸fQ)) e) hm) sy lJ
theorem pj{E:Value→Shared→Prop}{Q:Value→Shared→Prop}(W:WalksS prog w A.in1.in1 I fp wr G n P St)(hT:∀i s,St i s→s.TypeIs (.ref I) "list_reverseiterator")(lM:St 0 s)(vJ:∀b∈fp,b<s.heap.objs.size)(hI:I∈fp)
  (hQ:∀s' bV c',Moved (s.heap.objs.size::wr) G {s with heap:=s.heap.push {cls:= .type "list",data:= .seq #[]}} s'→
   s'.heap.get? s.heap.objs.size=some {cls:= .type "list",dict:=none,data:= .seq bV c',slots:= #[]}→ItemsOf P bV n→Q (.ref s.heap.objs.size) s') (hn:n≤sizeLine):
  wpAny (model prog w) A (call (.type "list") [.ref I]) Q E s:=by
 have vD:s.heap.objs.size∉fp:=λhm=>jk _ (vJ _ hm)
 refine callType_codes (Q₁:=λobj s₁=>obj= .ref s.heap.objs.size∧s₁={s with heap:=s.heap.push {cls:= .type "list",data:= .seq #[]}}) F.called_list (F.typeCall_list_1 _) F.entry_list_init
  (code_list_new _ ⟨rfl,rfl⟩) λobj s₁ JP=>?_
 obtain ⟨rfl,rfl⟩:=JP;have hS:(s.heap.push {cls:= .type "list",data:= .seq #[]}).get? s.heap.objs.size=some {cls:= .type "list",data:= .seq #[]}:=Heap.get?_push_size _ rfl;refine ⟨⟨_,hS,rfl⟩,F.args_list_init_2 _ _,p6 W hT _ (W.frame 0 s _ s.toks lM (bC _) λb _ o e=>Heap.get?_push_of_some _ e) vD hI hS (λs' bV c' hm sy lJ=>?_) hn⟩;exact ⟨rfl,hQ s' bV c' hm sy lJ⟩
end
end PySem
namespace L2
open PySem PySem.Spec PyProof.Rows
section
variable {X:Cx} {Z:DC} {a b c e:Expr} {ta te:aQ} {t:fu} {pos:Pos}
def yS(K:PySem.W.Frag)(ta:TA):TE:=λσ H Q=>ta σ H λvs H1=>∃l xs,vs= [.ref l]∧bE K H1 l xs∧∀q,H1 q=none→Q (.ref q) (upd H1 q (.lst xs.reverse))
theorem uB{ta:TA}{p p2 kn:Pos}(hc:X.calm=true)(FL:Gl X "list")(B0:X.mg "list"=none)(FN:Gl X "reversed")(z0:X.mg "reversed"=none)(ha:PA X [a] ta)
  (hs:starEach [.Call (.Name "reversed" p2) [a] [] kn] X.env=(false,eval (.Call (.Name "reversed" p2) [a] [] kn) X.env)::starEach [] X.env:=by rfl) (dG:(backTo pos (starEach [] X.env)).any (·.1)=false:=by rfl)
  (iX:starEach [a] X.env=(false,eval a X.env)::starEach [] X.env:=by rfl) (z5:(backTo kn (starEach [] X.env)).any (·.1)=false:=by rfl):
  PE X (.Call (.Name "list" p) [.Call (.Name "reversed" p2) [a] [] kn] [] pos) (yS X.K ta):=by
 intro pins s σ H Q I h;refine wpAny_Call_Name_kw (fh I FL B0 dD ?_);refine PyProof.Rows.callWith_type1 ?_ hs dG;rw [hs];show wpAny _ _ (spliced ((false,eval _ X.env)::backTo pos (starEach [] X.env))) _ _ s;refine Calls.spliced_cons ?_;refine wpAny_Call_Name_kw (fh I FN z0 lq ?_);refine PyProof.Rows.callWith_type1 (thn (ha kn pins s σ H _ I h) λus s1 ⟨vs,H1,I1,r1,q1⟩=>?_) iX z5;obtain ⟨l,xs,e,hl,q⟩:=q1;subst e;obtain ⟨u,rfl,ru⟩:=r1.one;cases ru;obtain ⟨its,rv,p,hz⟩:=I1.list hl;have hlen:=rv.length;refine call_reversed_list p.isList ?_;refine Calls.spliced_nil ?_;have eC:l<s1.heap.objs.size:=by obtain ⟨o,ho,_⟩:=p.isList;exact Heap.lt_size ho
 have z1:l≠s1.heap.objs.size:=cn eC;have W:=(Walks.listRev (prog:=X.prog) (w:=X.w) (A:=X.A.in1.in1) (I.ok.hd hc) s1.heap.objs.size l z1 its.toArray).toS;have hit:(s1.heap.push (revObj l ((its.toArray.size:Int)-1))).IsRevIter s1.heap.objs.size l ((its.toArray.size:Int)-1-((0:Nat):Int)):=⟨_,Heap.get?_push_size _ rfl,rfl,by simp [revObj]⟩
 have OC:(s1.heap.push (revObj l ((its.toArray.size:Int)-1))).IsList l its.toArray:=p.isList.at λo e=>Heap.get?_push_of_some _ e;have oy:(s1.heap.push (revObj l ((its.toArray.size:Int)-1))).objs.size=s1.heap.objs.size+1:=by simp [Heap.push]
 refine pj W (λi s st=>st.2.1.typeIs) ⟨fI _,hit,OC⟩ (λb hb=>?_) (by simp) (λs' bV c' hm sy lJ=>?_) (by simpa [←hlen] using hz)
 ·rw [show ({s1 with heap:=s1.heap.push (revObj l ((its.toArray.size:Int)-1))}:Shared).heap.objs.size=s1.heap.objs.size+1 from oy]
  have hb:b=s1.heap.objs.size∨b=l:=by simpa using hb
  rcases hb with rfl|rfl
  ·exact Nat.lt_succ_self _
  ·exact Nat.lt_succ_of_lt eC
 ·rw [Moved.eq_with hm]
  have kk:∀b o,s1.heap.get? b=some o→s'.heap.get? b=some o:=λb o e=>by
   have hb:=Heap.lt_size e;refine hm.heap b o (λlL=>?_) (Heap.get?_push_of_some _ (Heap.get?_push_of_some _ e));have lL:b=(s1.heap.push (revObj l ((its.toArray.size:Int)-1))).objs.size∨b=s1.heap.objs.size:=by simpa using lL
   rw [oy] at lL
   rcases lL with rfl|rfl
   ·exact absurd hb (Nat.not_lt.mpr (Nat.le_succ _))
   ·exact absurd hb (jk _)
  rw [show ({s1 with heap:=s1.heap.push (revObj l ((its.toArray.size:Int)-1))}:Shared).heap.objs.size=s1.heap.objs.size+1 from oy] at sy ⊢
  refine ⟨.ref (s1.heap.objs.size+1),_,I1.laid kk (Nat.le_succ _) (o:= .lst xs.reverse) ⟨by rw [xK];exact hz,bV.toList,c',?_,by simpa using sy⟩,rfl,q _ (I1.hok.fresh (Nat.le_succ _))⟩
  refine Vals.of_get (by simp [lJ.1,hlen]) λk x w hx hw=>?_
  have hk:k<xs.length:=by
   have:=(eo.mp hx).1
   simpa using this
  rw [List.getElem?_reverse hk] at hx;obtain ⟨u,hu,ru⟩:=rv.get hx
  have:its.toArray[its.toArray.size-1-k]? =some w:=lJ.2 k w (by rw [←n4];exact hw)
  have e2:its.toArray.size-1-k=xs.length-1-k:=by simp [hlen]
  rw [e2] at this
  have:u=w:=by
   have h1:its[xs.length-1-k]? =some w:=by simpa using this
   rw [hu] at h1;exact Option.some.inj h1
  rw [←this];exact ru
def xT(t:fu):aQ:=λρ P=>t ρ λds=>match ds with
 | [.lst l]=>P (.lst l.reverse)
 |_=>False
theorem tZ{p p2 kn:Pos}(hc:X.calm=true)(FL:Gl X "list")(B0:X.mg "list"=none)(FN:Gl X "reversed")(z0:X.mg "reversed"=none)(ha:DA Z X [a] t)
  (hs:starEach [.Call (.Name "reversed" p2) [a] [] kn] X.env=(false,eval (.Call (.Name "reversed" p2) [a] [] kn) X.env)::starEach [] X.env:=by rfl) (dG:(backTo pos (starEach [] X.env)).any (·.1)=false:=by rfl)
  (iX:starEach [a] X.env=(false,eval a X.env)::starEach [] X.env:=by rfl) (z5:(backTo kn (starEach [] X.env)).any (·.1)=false:=by rfl):
  DE Z X (.Call (.Name "list" p) [.Call (.Name "reversed" p2) [a] [] kn] [] pos) (xT t):=by
 refine (uB hc FL B0 FN z0 ha hs dG iX z5).imp ?_;rintro σ H Q ⟨G,ρ,P,s,en,h,q⟩;refine ⟨G,ρ,_,s,en,h,λds hd vs G1 H1 x1 dv=>?_⟩;cases dv with
 |nil=>exact hd.elim
 |cons a as=>
  cases as with
  |cons _ _=>cases a<;>exact hd.elim
  |nil=>
   cases a<;>first|exact hd.elim|skip
   rename_i p xs ds ha e
   exact ⟨_,xs,rfl,bE.of (x1.sub _ _ ha),λp hn=>q _ hd _ _ _ (x1.trans (.new x1.sub hn)) (.lst av (e.rev.mono (aK (x1.sub.free hn) _)))⟩
end
section
variable {Z:DC} {X:Cx} {md:List Nat} {rn:Nat} {a b e k:Expr} {pos:Pos} {ta tb te tk:aQ} {t:eU}
def IM(ta tb:aQ):eU:=λρ P=>ta ρ λd1=>∃l1,d1= .lst l1∧tb ρ λd2=>∃l2,d2= .lst l2∧l1.length+l2.length≤sizeLine∧P (l1++l2)
theorem BH(ha:DE Z X a ta)(hb:DE Z X b tb):DF Z X 1 (.BinOp a .Add b pos) (IM ta tb):=by
 refine (sX sS ha hb).imp ?_;rintro σ H Q ⟨G,ρ,P,s,e,h,q⟩;refine ⟨G,ρ,_,s,e,h,?_⟩;rintro _ ⟨l1,rfl,h⟩ v1 G1 H1 x1 vt;refine ⟨G1,ρ,_,x1.sub,e.mono x1.gg,h,?_⟩;rintro _ ⟨l2,rfl,hz,hp⟩ v2 G2 H2 x2 so;obtain ⟨p1,GN,rfl,h1,e1⟩:=vt.ik;obtain ⟨p2,Mn,rfl,h2,e2⟩:=so.ik;have Fp:=e1.mono x2.gg;have x:=x1.trans x2;refine ⟨_,_,_,_,rfl,rfl,x2.hh _ _ (x1.sub _ _ h1),x2.sub _ _ h2,by rw [e1.length,e2.length];exact hz,λp jn=>?_⟩
 obtain ⟨o1,o2,o3⟩:=gH x jn (Fp.append e2);exact q _ hp _ _ _ _ (x.side jn) o1 o2 o3
variable {tg iter elt:Expr} {ifs:List Expr} {scope:Scope} {NC:List Str} {src:List (Option Nat)} {wi:gT} {g:dB} {tt:b6}
theorem Fg(hc:X.calm=true)(c:bG X scope)(dS:b8 scope X.N src NC)(hi:DI Z X tg iter wi)
  (hg:∀ex s H,DG Z (dN X scope NC ex s H) tg g) (ht:∀ex s H,u7 Z (dN X scope NC ex s H) ifs tt) (he:∀ex s H,DE Z (dN X scope NC ex s H) elt te)
  (hs:∀x,foldedSetIterable iter X.env x=pure x:=by intro _;rfl):DF Z X 1 (.ListComp elt [⟨tg,iter,ifs,0⟩] scope pos) (BS wi g tt te src):=(AG hc c dS hi hg ht he hs).imp p4
variable {B:Bs} {ρ:DN} {σ:St} {H G:Hp} {fp:Nat→List Addr}
theorem SIx.N4{P:List D→Prop}{Q:VK}(S:SIx Z B md ρ σ H G fp)(h:t ρ P)
  (hq:∀ds,P ds→ds.all bY=true∧∀v G' H',SIx Z B md ρ σ H' G' fp→Ext G H G' H'→Dv Z G' v (.lst ds)→Q v H'):kM Z 1 t σ H Q:=by
 refine ⟨H,ρ,P, .refl _,S.nH,h,?_⟩;intro ds hd v f G' H' x o nd nw;obtain ⟨zV,k⟩:=hq ds hd;obtain ⟨a,xs,dr,fK,rfl,e1,ha,vI,ol⟩:=o.lst;cases e1;obtain ⟨dv,rfl⟩:=ol.flat;have hb:H a=none:=(nw a (by rw [vI];simp)).1
 have hg:G a=none:=S.ex.sub.free hb
 have x2:Ext G H (upd G a (.lst xs)) H':=by
  refine ⟨aK hg _,λb o e=>?_,x.hh,λb h1 h2=>?_⟩
  ·by_cases z:b=a
   ·subst z
    rw [av] at e;rw [←e];exact ha
   ·rw [ax z] at e
    exact x.hh _ _ (S.ex.sub _ _ e)
  ·rw [ax (λz=>h1 (by rw [z];exact hb))];exact h2
 exact k _ _ _ (S.grow x2) x2 (.lst av (dv.flat zV))
def zq(i:Nat)(tk:aQ)(t:eU):bP:=λE ρ=>t ρ λd=>d.all bY=true∧∃ds,ρ[i]? =some (some (.lst ds))∧tk ρ λkk=>∃k j,kk= .int k∧ee ds.length k=some j∧E.nx (ρ.set i (some (.lst (ds.set j (.lst d)))))
theorem vo(i:Nat){x:Str}{px ps:Pos}(hk:DE Z X k tk)(he:DF Z X 1 e t)(hm:md.getD i 0=1:=by rfl)(hi:X.N[i]? =some x:=by rfl)(hv:iS X.env.scope x:=by first|exact Or.inl rfl|exact Or.inr (Or.inl rfl) |exact Or.inr (Or.inr rfl))(hd:(x==("__debug__":Str))=false:=by decide)(cI:(x==("__classdict__":Str))=false:=by decide)
  (ha:∀v,assign (.Subscript (.Name x px) k ps) X.env v=(do
   let ov ←holding [v] (eval (.Name x px) X.env)
   let iv ←holding [v,ov] (eval k X.env)
   standAt ps
   holding [v,ov,iv] (setItem ov iv v)
   release [v,ov,iv] []):=by intro _;rfl)
  (hs:swapsWithSole [.Subscript (.Name x px) k ps] e pos.line X.env=pure false:=by rfl) (hw:swappedStores [.Subscript (.Name x px) k ps] e X.env=pure none:=by rfl)
  (h1:(assignEach [.Subscript (.Name x px) k ps] X.env).map (·.2)= [assign (.Subscript (.Name x px) k ps) X.env]:=by rfl):DSt Z X md rn (.Assign [.Subscript (.Name x px) k ps] e pos) (zq i tk t):=by
 refine (tj he (oS (pv i hi hv hd cI) hk set_list ha) hs hw h1).imp ?_;rintro D σ H ⟨B,ρ,E,⟨G,fp,S⟩,h,M⟩;refine S.N4 h λd hd=>⟨hd.1,λv G' H' S' x dv=>?_⟩;obtain ⟨_,ds,h1,h⟩:=hd;obtain ⟨l,xs,_,_,e2,e3,_⟩:=S'.one hm h1;refine ⟨_,e2,S'.ev true h ?_⟩;rintro _ ⟨k,j,rfl,hj,h3⟩;refine ⟨rfl,λv1 G1 H1 S1 x1 vt=>?_⟩;cases vt;obtain ⟨l',fG,dr,e1,gW,sr,aV,put⟩:=S1.one hm h1;cases e1;rw [e2] at gW;cases gW;exact ⟨l,fG,k,j,rfl,rfl,sr,by rw [aV.length];exact hj,M.nx _ h3 _ _ ⟨G1,fp,put _ _ (aV.set (dv.mono x1.gg) j)⟩⟩
end
section
variable {Z:DC} {X:Cx} {md:List Nat} {rn:Nat} {e:Expr} {pos p2:Pos} {te:aQ} {t:eU} {lo hi:Option Expr} {tl th:u6}
def Fb(t:eU):bP:=λE ρ=>t ρ λds=>E.rt (.lst ds)
theorem zE(he:DF Z X rn e t):DSt Z X md rn (.Return (some e) pos) (Fb t):=(tq he).imp λD σ H ⟨B,ρ,E,⟨G,fp,S⟩,h,M⟩=>by
 let F:Addr→Prop:=λb=>∃i,b∈fp i
 have s:=S.ex.sub
 have x0:Ext B.G₀ B.H₀ (plus G H F) H:=⟨S.ex.gg.trans (cH s),gk s,S.ex.hh,λb hb hg=>by
  rw [e8 (λ⟨i,hi⟩=>hb (S.nw i b hi).1)];exact S.ex.off b hb hg⟩
 refine ⟨plus G H F,ρ,_,gk s,⟨S.len,λi d h=>?_⟩,h,λds hd v f G' H' x o nd nw=>M.rt _ hd v f G' H' (x0.trans x) o nd λb hb=>⟨S.ex.hh.free (nw b hb).1,(nw b hb).2⟩⟩;obtain ⟨v,hv,o⟩:=S.at_ i d h;exact ⟨v,hv,o.dv (cH s) λb hb u e=>by rw [iJ ⟨i,hb⟩];exact e⟩
end
theorem dm.ok{P:Program}{w:World}{H:Hp}{h:Heap}{a:Addr}{b:Bool}{ns:List Int}(x:dm b a ns h):bR P w H h a (.ext (dm b a ns)):=by
 refine ⟨x,let ⟨o,_,_,_,ho,_⟩:=x;⟨o,ho⟩,λh1 h2 p k=>?_⟩;obtain ⟨o,es,ep,t,ho,r⟩:=p;exact ⟨o,es,ep,t,k o ho,r⟩
theorem nz.elems{P:Program}{w:World}{es:Array (Int×Value)}{ns:List Int}(i:nz es ns):ElemsOf (intKind P w) es.toList:=λe he=>by
 obtain ⟨k,t,rfl⟩:=i.1 e he;exact ⟨⟨k,by simp [intKind,Value.isInt],rfl⟩,rfl⟩
theorem rk:∀{es:List (Int×Value)}{ms:List Int},(∀e∈es,∃k t,e=(hashInt k,Value.int k t))→IntsAre (es.map (·.2)) ms→∀k,k∈ms↔∃e∈es,Value.isInt k e.2=true
 | [],_,_,h,k=>by cases h;simp
 |e::es,ms,ha,h,k=>by
  obtain ⟨j,t,rfl⟩:=ha e (fQ ..);cases h with
  |cons n t' h=>
   have ih:=rk (λe he=>ha e (fJ _ he)) h k;rw [cV,ih]
   constructor
   ·rintro (rfl| ⟨e,he,q⟩)
    ·exact ⟨_,fQ ..,by simp [Value.isInt]⟩
    ·exact ⟨e,fJ _ he,q⟩
   ·rintro ⟨e,he,q⟩
    rcases cV.mp he with rfl|he
    ·left;simp [Value.isInt] at q;exact q.symm
    ·exact .inr ⟨e,he,q⟩
theorem nz.mem{P:Program}{w:World}{es:Array (Int×Value)}{ns:List Int}(i:nz es ns)(k:Int):k∈ns↔∃e∈es.toList,(intKind P w).is k e.2=true:=by
 obtain ⟨a,_,ms,b,c⟩:=i;rw [←c.mem_iff];exact rk a b k
theorem rj:∀{vs:List Value}{ms:List Int},IntsAre vs ms→vs.length=ms.length
 |_,_, .nil=>rfl
 |_,_, .cons _ _ h=>congrArg (·+1) (rj h)
theorem nz.size{es:Array (Int×Value)}{ns:List Int}(i:nz es ns):es.size=ns.length:=by
 obtain ⟨_,_,ms,b,c⟩:=i;rw [←c.length_eq,←rj b,aW,fH]
theorem _root_.PySem.eQ.A7{b:Bool}{o:Obj}{es:Array (Int×Value)}{ep:Nat}{t:SetTable}(S:eQ b o es ep t):es.size≤306:=by
 have:=S.few
 rcases S.tok.few with h|h|h|h<;>omega
theorem dm.setOf{P:Program}{w:World}{h:Heap}{a:Addr}{b:Bool}{ns:List Int}(x:dm b a ns h):h.SetOf (intKind P w) a (λk=>decide (k∈ns)) ns.length:=by
 obtain ⟨o,es,ep,t,ho,S,i⟩:=x;refine ⟨o,es,ep,t,ho,S.ex,S.dat,i.elems,λk=>?_,?_,S.fits,i.size⟩
 ·rw [decide_eq_true_eq];exact i.mem k
 ·have:=S.A7
  show es.size<4096;omega
def rh(ns:List Int)(k:Int):List Int:=if k∈ns then ns else ns++ [k]
section
variable {X:Cx}
theorem Inv.xy{pins:List (Addr×Obj)}{σ:St}{H:Hp}{s:Shared}{a:Addr}{b:Bool}{ns:List Int}(I:Inv X pins σ H s)(h:H a=some (.ext (dm b a ns))):dm b a ns s.heap:=(I.hok a _ h).1
theorem AI{p pos:Pos}(hg:Gl X "set")(hm:X.mg "set"=none):PE X (.Call (.Name "set" p) [] [] pos) (λσ H Q=>∀q,H q=none→Q (.ref q) (upd H q (.ext (dm (cO X.w) q [])))):=by
 intro pins s σ H Q I h;refine wpAny_Call_Name_kw (fh I hg hm (u:= .type "set") (by decide+kernel) ?_ (by decide) (by decide))
 refine PyProof.Rows.callWith_type rfl (PyProof.Rows.evalArgs_nil3 (sg ?_));have hn:=I.hok.fresh (bC _);refine ⟨.ref s.heap.objs.size,_,I.laid (t':=s.toks) (λb o e=>Heap.get?_push_of_some _ e) (bC _) (o:= .ext (dm (cO X.w) s.heap.objs.size [])) (dm.ok ⟨_,_,_,_,Heap.get?_push_size _ rfl,eQ.new X.w,?_⟩),rfl,h _ hn⟩;exact ⟨λe he=>by simp at he,fW,[],by simpa using IntsAre.nil, .refl _⟩
theorem wq:OpR X (compareOp .NotIn) (λx y H Q=>∃k p b ns,x= .int k∧y= .ref p∧H p=some (.ext (dm b p ns))∧Q (.bl (!decide (k∈ns))) H):=by
 intro pins s σ H x y v u Q I rx ry h;obtain ⟨k,p,b,ns,rfl,rfl,hp,q⟩:=h;obtain ⟨t,rfl⟩:=rx;cases ry;exact wpAny_notInSet_of (knd:=intKind X.prog X.w) (k:=k) (by simp [intKind,Value.isInt]) rfl (I.xy hp).setOf ⟨.bl _,H,I.tok _,rfl,q⟩
def Gq(w:World):V→List V→Hp→VK→Prop:=λx vs H Q=>∃l b ns k,x= .ref l∧vs= [.int k]∧H l=some (.ext (dm b l ns))∧b=cO w∧ns.length≤300∧Q .aT (upd H l (.ext (dm b l (rh ns k))))
theorem An:Bx X "set.add" (Gq X.w):=by
 intro pins s σ H x vs v us Q I rx rv h;obtain ⟨l,b,ns,k,rfl,rfl,hl,rfl,hz,q⟩:=h;cases rx;obtain ⟨u,rfl,ru⟩:=rv.one;obtain ⟨tk,rfl⟩:=ru;obtain ⟨o,es,ep,t,ho,S,i⟩:=I.xy hl;have hT:s.TypeIs (.ref l) "set":=⟨o,ho,S.ex.1⟩;refine wpAny_call_entry F.slot_set_add hT F.entry_set_add ?_ (F.args_set_add_2 _ _);unfold Builtin.«set.add» Builtin.Frozenset.oneOther;simp only [List.isEmpty_nil,bind_assoc];unfold Builtin.Frozenset.addrOf setAdd;refine wpAny_bind (wpAny_pure ?_)
 try dsimp only
 refine wpAny_bind (wpAny_pure ?_)
 try dsimp only
 refine wpAny_bind ?_;refine wpAny_holding ?_;have hk:(intKind X.prog X.w).is k (.int k tk)=true:=by simp [intKind,Value.isInt]
 refine wpAny_bind ((intKind X.prog X.w).pyHash hk ?_);refine tI (s:={s with toks:=s.toks+1}) ho S i.elems hk (by rw [i.size];omega) (λhm=>?_) λnm h' o' gz su t' sb ic S' pm=>?_
 ·show wpAny _ _ (ret Value.none) _ _ _
  have lL:k∈ns:=(i.mem k).mpr hm;rw [rh,if_pos lL] at q
  have e:upd H l (.ext (dm (cO X.w) l ns))=H:=by
   funext c
   by_cases z:c=l
   ·subst z;rw [av];exact hl.symm
   ·rw [ax z]
  rw [e] at q;exact wpAny_pure ⟨_,rfl, .aT,H,I.tok _,rfl,q⟩
 ·show wpAny _ _ (ret Value.none) _ _ _
  have lL:k∉ns:=λz=>nm ((i.mem k).mp z);rw [rh,if_neg lL] at q
  have i':nz gz (ns++ [k]):=by
   obtain ⟨a1,a2,ms,a3,a4⟩:=i;refine ⟨λe he=>?_,?_,?_⟩
   ·rcases cu.mp (pm.mem_iff.mp he) with h|h
    ·exact a1 e h
    ·rw [cE] at h;exact ⟨k,tk,h⟩
   ·rw [jS]
    refine ⟨a2,by simp,λx hx y hy z=>lL ?_⟩
    rw [cE] at hy;rw [←hy,←z];exact hx
   ·have a5:IntsAre ((es.toList++ [((intKind X.prog X.w).hash k,Value.int k tk)]).map (·.2)) (ms++ [k]):=by
     rw [cM];clear a4 pm;generalize es.toList.map (·.2)=vs at a3
     induction a3 with
     |nil=>exact .cons k tk .nil
     |cons n t _ ih=>exact .cons n t ih
    obtain ⟨Rf,b1,b2⟩:=pU (pm.map (·.2)) a5;exact ⟨Rf,b1,b2.trans (a4.append_right _)⟩
  have I':=I.write (h':=h') (t':=s.toks+1) (x:=l) (e:=l) (o:= .ext (dm (cO X.w) l (ns++ [k]))) (by rw [hl];trivial) (.inl rfl) (λb u hb e=>sb.extBut b u hb e) ⟨o',ic⟩ (dm.ok ⟨o',gz,su,t',ic,S',i'⟩)
  exact wpAny_pure ⟨_,rfl, .aT,_,I',rfl,q⟩
def L9(r:V→List V→Hp→VK→Prop)(to:TE)(t:TA):TE:=λσ H Q=>to σ H λx H1=>(∃p b ns,x= .ref p∧H1 p=some (.ext (dm b p ns)))∧t σ H1 λxs H2=>r x xs H2 Q
variable {o e:Expr} {es:List Expr} {to:TE} {t:TA} {name:Str} {apos aP:Pos} {id:String} {r:V→List V→Hp→VK→Prop}
theorem CG(pa:PlainAttrs "set")(slot:Slot "set" name id)(z7:typeOf (.builtin id)=pure (.type "method_descriptor"))(hm:Bx X id r)(ho:PE X o to)(ha:PA X (e::es) t)
  (cw:attributeBase o name X.env (eval o X.env)=eval o X.env:=by rfl)
  (iF:((backTo aP (starEach (e::es) X.env)).all (λx=>!x.1)&&(backToKw aP (keywordEach [] X.env)).all (λx=>x.1.isSome)
   &&decide ((e::es).length+([]:List Keyword).length+(if ([]:List Keyword).isEmpty then 0 else 1)<30))=true:=by rfl)
  (cg:(apos.endLine==aP.line)=true:=by rfl) (hs:starEach (e::es) X.env=(false,eval e X.env)::starEach es X.env:=by rfl) (df:(backTo aP (starEach es X.env)).any (·.1)=false:=by rfl):
  PE X (.Call (.Attribute o name apos) (e::es) [] aP) (L9 r to t):=by
 intro pins s σ H Q I h;refine wpAny_Call_method_late cw iF cg rfl (thn (ho pins s σ H _ I h) λv s1 ⟨x,H1,I1,r1,ty,q1⟩=>?_);obtain ⟨p,b,ns,rfl,hp⟩:=ty;cases r1;obtain ⟨oo,_,_,_,JG,S,_⟩:=I1.xy hp;refine ⟨"set",id,pa,slot,z7,⟨oo,JG,S.ex.1⟩,λa ea=>?_,?_⟩
 ·cases ea;exact ⟨oo,JG,S.ex.2.1⟩
 have hA:=ha aP pins s1 σ H1 _ I1 q1;rw [hs] at hA ⊢;refine Calls.callWith_builtin (by show (false|| (backTo aP (starEach es X.env)).any (·.1))=false;rw [df]<;>rfl) (Calls.evalArgs_plain ?_)
 exact thn hA λus s2 ⟨vs,H2,I2,r2,q2⟩=>hm pins s2 σ H2 (.ref p) vs (.ref p) us Q I2 rfl r2 q2
theorem qK(hc:X.calm=true):dJ X (.builtin "sorted") (λxs H Q=>∃(p:Addr)(ns:List Int),xs= [.ref p]∧H p=some (.ext (dm (cO X.w) p ns))∧ns.length<64∧∀(q:Addr)(ms:List Int),H q=none→ms.Perm ns→ms.Pairwise (·≤·)→Q (.ref q) (upd H q (.lst (ms.map V.int)))):=by
 intro pins s σ H xs us Q I rv h;obtain ⟨p,ns,rfl,hp,hz,q⟩:=h;obtain ⟨u,rfl,ru⟩:=rv.one;cases ru;obtain ⟨o,es,ep,t,ho,S,i⟩:=I.xy hp;obtain ⟨_,_,SX,i1,i2⟩:=id i;refine uM (I.ok.hd hc) ho S i1 (by rw [i.size];exact hz) λh' tk c out e ms old le hg hI pm Bg=>?_
 have fr:H c=none:=I.hok.fresh le;have cg:64≤sizeLine:=by decide
 have B0:=(pm.trans i2).length_eq;exact ⟨.ref c,_,I.laid (t':=tk) old le (o:= .lst (ms.map V.int)) ⟨by rw [aW];omega,out.toList,e,kY hI,by simpa using hg⟩,rfl,q c ms fr (pm.trans i2) Bg⟩
end
section
variable {Z:DC} {X:Cx} {B:Bs} {md:List Nat} {rn:Nat} {ρ:DN} {σ:St} {H G:Hp} {fp:Nat→List Addr} {a e k o:Expr} {ta te tk tp:aQ} {pos apos aP p2:Pos}
def HW(neg:Bool):dM:=λa b P=>∃k bb ns,a= .int k∧b= .set bb ns∧P (.bl (if neg=true then !decide (k∈ns) else decide (k∈ns)))
theorem we:OpR X (compareOp .NotIn) (bh Z (HW true)):=by
 refine wq.imp ?_;rintro x y H Q ⟨G,a,b,P,s,da,db,⟨k,bb,ns,rfl,rfl,h⟩,q⟩;cases da;cases db with
 |set hp=>exact ⟨k,_,_,ns,rfl,rfl,s _ _ hp,q _ h _ G H (.refl s) (.bl _)⟩
def Fe(w:World)(i:Nat):bP:=λE ρ=>E.nx (ρ.set i (some (.set (cO w) [])))
theorem zF(i:Nat){x:Str}{pos' p:Pos}(hN:X.N.Nodup)(hg:Gl X "set")(vN:X.mg "set"=none)(hm:md.getD i 0=99:=by rfl)(hi:X.N[i]? =some x:=by rfl)(hx:Loc X.env.scope x:=by first|exact Or.inl rfl|exact Or.inr rfl)(hs:swapsWith (.Call (.Name "set" p) [] [] p2) (some (.Name x pos')) pos.line X.env=pure false:=by rfl)
  (hf:X.fn x=true∨X.env.scope.names.lookup x=some .local:=by first|exact .inl rfl|exact .inr rfl|assumption):DSt Z X md rn (.Assign [.Name x pos'] (.Call (.Name "set" p) [] [] p2) pos) (Fe X.w i):=by
 refine (fk hN hi hx (AI hg vN) hs hf).imp ?_;rintro D σ H ⟨B,ρ,E,⟨G,fp,S⟩,h,M⟩;intro c hc;have gc:G c=none:=S.ex.sub.free hc;have x:Ext G H G (upd H c (.ext (dm (cO X.w) c []))):=⟨.refl _,S.ex.sub.trans (aK hc _),aK hc _,λ_ _ z=>z⟩;refine M.nx _ h _ _ ⟨G,_,(S.grow x).rO hm (f:= [c]) (.inr (.inr ⟨c,_,rfl,av,rfl, .inl ⟨rfl,_,[],rfl,rfl⟩⟩)) (by simp) (λb hb=>?_) λb hb j _ hj=>?_⟩
 ·rw [cE] at hb;subst hb
  exact ⟨S.ex.hh.free hc,(by rw [av];exact λz=>nomatch z),gc⟩
 ·rw [cE] at hb;subst hb
  exact (S.nw j _ hj).2.1 hc
def EX(w:World)(md:List Nat)(m:Bool)(i:Nat)(te:aQ):bP:=λE ρ=>∃ns,ρ[i]? =some (some (.set (cO w) ns))∧te (oG md m ρ) λd=>∃k,d= .int k∧ns.length≤300∧E.nx (ρ.set i (some (.set (cO w) (rh ns k))))
theorem zA(m:Bool)(i:Nat){x:Str}{px:Pos}(he:DE Z X e te)(hm:md.getD i 0=99:=by rfl)(hi:X.N[i]? =some x:=by rfl)(hv:iS X.env.scope x:=by first|exact Or.inl rfl|exact Or.inr (Or.inl rfl) |exact Or.inr (Or.inr rfl))(hd:(x==("__debug__":Str))=false:=by decide)(cI:(x==("__classdict__":Str))=false:=by decide)
  (cw:attributeBase (.Name x px) "add" X.env (eval (.Name x px) X.env)=eval (.Name x px) X.env:=by rfl)
  (iF:((backTo aP (starEach [e] X.env)).all (λx=>!x.1)&&(backToKw aP (keywordEach [] X.env)).all (λx=>x.1.isSome)&&decide (([e]:List Expr).length+([]:List Keyword).length+(if ([]:List Keyword).isEmpty then 0 else 1)<30))=true:=by rfl)
  (cg:(apos.endLine==aP.line)=true:=by rfl) (hs:starEach [e] X.env=(false,eval e X.env)::starEach [] X.env:=by rfl) (df:(backTo aP (starEach [] X.env)).any (·.1)=false:=by rfl)
  (iY:swapsWith (.Call (.Attribute (.Name x px) "add" apos) [e] [] aP) none pos.line X.env=pure false:=by rfl):
  DSt Z X md rn (.Expr (.Call (.Attribute (.Name x px) "add" apos) [e] [] aP) pos) (EX X.w md m i te):=by
 refine (jH (CG PySem.F.plainAttrs_set PySem.F.slot_set_add PySem.F.type_set_add An (pv i hi hv hd cI) (cC he fj hs) cw iF cg hs df) iY).imp ?_;rintro D σ H ⟨B,ρ,E,⟨G,fp,S⟩,⟨ns,h1,h⟩,M⟩;obtain ⟨v0,jD,o0⟩:=S.at_ i _ h1;rw [hm] at o0;obtain ⟨l,rfl,hl,_⟩:=o0.En;refine ⟨_,jD,⟨l,_,_,rfl,hl⟩,S.ev m h λd hd=>?_⟩;obtain ⟨k,rfl,hz,hn⟩:=hd;refine ⟨by cases m<;>trivial,λv G' H' S' x dv=>?_⟩
 cases dv;obtain ⟨v1,z9,o1⟩:=S'.at_ i _ h1;rw [jD] at z9;cases z9;rw [hm] at o1;obtain ⟨l',e',FQ,vJ⟩:=o1.En;cases e';refine ⟨l,_,ns,k,rfl,rfl,FQ,rfl,hz,M.nx _ hn _ _ ⟨G',fp,S'.mut jD (b:=l) (by rw [vJ];simp) ?_⟩⟩
 rw [hm,vJ];exact .inr (.inr ⟨l,_,rfl,av,rfl, .inl ⟨rfl,_,_,rfl,rfl⟩⟩)
def HU(md:List Nat)(i:Nat)(te:aQ):bP:=λE ρ=>∃ds,ρ[i]? =some (some (.lst ds))∧te (ck md ρ) λd=>∃zs,d= .lst zs∧ds.length+zs.length≤sizeLine∧E.nx (ρ.set i (some (.lst (ds++zs))))
theorem BN(i:Nat){x:Str}{px:Pos}(he:DE Z X e te)(hm:md.getD i 0=1:=by rfl)(hi:X.N[i]? =some x:=by rfl)(hv:iS X.env.scope x:=by first|exact Or.inl rfl|exact Or.inr (Or.inl rfl) |exact Or.inr (Or.inr rfl))(hd:(x==("__debug__":Str))=false:=by decide)(cI:(x==("__classdict__":Str))=false:=by decide)
  (cw:attributeBase (.Name x px) "extend" X.env (eval (.Name x px) X.env)=eval (.Name x px) X.env:=by rfl)
  (iF:((backTo aP (starEach [e] X.env)).all (λx=>!x.1)&&(backToKw aP (keywordEach [] X.env)).all (λx=>x.1.isSome)&&decide (([e]:List Expr).length+([]:List Keyword).length+(if ([]:List Keyword).isEmpty then 0 else 1)<30))=true:=by rfl)
  (cg:(apos.endLine==aP.line)=true:=by rfl) (hs:starEach [e] X.env=(false,eval e X.env)::starEach [] X.env:=by rfl) (df:(backTo aP (starEach [] X.env)).any (·.1)=false:=by rfl)
  (iY:swapsWith (.Call (.Attribute (.Name x px) "extend" apos) [e] [] aP) none pos.line X.env=pure false:=by rfl):
  DSt Z X md rn (.Expr (.Call (.Attribute (.Name x px) "extend" apos) [e] [] aP) pos) (HU md i te):=by
 refine (jH (sV PySem.F.plainAttrs_list PySem.F.slot_list_extend PySem.F.type_list_extend v3 (pv i hi hv hd cI) (cC he fj hs) cw iF cg hs df) iY).imp ?_;rintro D σ H ⟨B,ρ,E,⟨G,fp,S⟩,⟨ds,h1,h⟩,M⟩;obtain ⟨l,xs,_,_,e2,e3,_⟩:=S.one hm h1;refine ⟨_,e2,ty_list e3,S.ev false h λd hd=>⟨trivial,λv G' H' S' x dv=>?_⟩⟩;obtain ⟨zs,rfl,h2,h3⟩:=hd;obtain ⟨l',fG,dr,e1,gW,sr,aV,put⟩:=S'.one hm h1;cases e1;rw [e2] at gW;cases gW;cases dv with
 | @lst b ys _ hb dz=>
  exact ⟨l,b,fG,ys,rfl,rfl,sr,S'.ex.sub _ _ hb,by rw [aV.length,dz.length];exact h2,M.nx _ h3 _ _ ⟨G',fp,put _ _ (aV.append dz)⟩⟩
end
theorem kf.snoc{H:Hp}{a:Addr}{p:Int×Int}(h:H a=some (.tup [.int p.1, .int p.2])):∀{es:List (Int×Addr)}{ps:List (Int×Int)},kf H es ps→kf H (es++ [(cG p,a)]) (ps++ [p])
 |_,_, .nil=> .cons h .nil
 |_,_, .cons h' t=> .cons h' (kf.snoc h t)
section
variable {X:Cx} {pins:List (Addr×Obj)} {σ:St} {H:Hp} {s:Shared}
theorem Inv.AV{a:Addr}{p:Int×Int}(I:Inv X pins σ H s)(h:H a=some (.tup [.int p.1, .int p.2])):IsTupleKey (intKind X.prog X.w) s.heap [p.1,p.2] a:=by
 obtain ⟨its,r,⟨o,ho,hc,n,hd⟩,_⟩:=I.tuple (ed.of h);obtain ⟨u1,u2,rfl,⟨t,rfl⟩,⟨u,rfl⟩⟩:=Vals.two r;exact ⟨o,_,n,ho,hc,hd, .cons (by simp [intKind,Value.isInt]) (.cons (by simp [intKind,Value.isInt]) .nil)⟩
theorem sT(P:Program)(w:World)(p:Int×Int):tupleKeyHash (intKind P w) [p.1,p.2]=cG p:=rfl
variable {o e:Expr} {es:List Expr} {to:TE} {t:TA} {name:Str} {apos aP:Pos} {id:String} {r:V→List V→Hp→VK→Prop}
end
section
variable {Z:DC} {X:Cx} {B:Bs} {md:List Nat} {rn:Nat} {ρ:DN} {σ:St} {H G:Hp} {fp:Nat→List Addr} {a e k o:Expr} {ta te tk tp:aQ} {pos apos aP p2:Pos}
def Gn(p:Int×Int):D:= .tup [.int p.1, .int p.2]
theorem Dv.Eg{v:V}{p:Int×Int}(h:Dv Z G v (Gn p)):∃c,v= .ref c∧G c=some (.tup [.int p.1, .int p.2]):=by
 obtain ⟨c,xs,rfl,h1,h2⟩:=Dv.kR h;obtain ⟨v1,v2,rfl,d1,d2⟩:=h2.wg;rw [d1.ofInt,d2.ofInt] at h1;exact ⟨c,rfl,h1⟩
end
section
variable {Z:DC} {X:Cx} {md:List Nat} {rn:Nat} {b:Expr} {pos Du:Pos} {tb:aQ}
def EW(md:List Nat)(i:Nat)(tb:aQ):bP:=λE ρ=>∃l1,ρ[i]? =some (some (.lst l1))∧tb (ck md ρ) λd2=>∃l2,d2= .lst l2∧l1.length+l2.length≤sizeLine∧E.nx (ρ.set i (some (.lst (l1++l2))))
theorem zy(i:Nat){x:Str}{px py:Pos}(hN:X.N.Nodup)(hb:DE Z X b tb)(hm:md.getD i 0=1:=by rfl)(hi:X.N[i]? =some x:=by rfl)(hx:Loc X.env.scope x:=by first|exact Or.inl rfl|exact Or.inr rfl)(hs:swapsWith (.BinOp (.Name x py) .Add b Du) (some (.Name x px)) pos.line X.env=pure false:=by rfl)
  (hv:iS X.env.scope x:=by first|exact Or.inl rfl|exact Or.inr (Or.inl rfl) |exact Or.inr (Or.inr rfl)) (hd:(x==("__debug__":Str))=false:=by decide) (cI:(x==("__classdict__":Str))=false:=by decide)
  (hf:X.fn x=true∨X.env.scope.names.lookup x=some .local:=by first|exact .inl rfl|exact .inr rfl|assumption):DSt Z X md rn (.Assign [.Name x px] (.BinOp (.Name x py) .Add b Du) pos) (EW md i tb):=by
 refine (fk hN hi hx (sX sS (pv i hi hv hd cI) hb) hs hf).imp ?_;rintro D σ H ⟨B,ρ,E,⟨G,fp,S⟩,⟨l1,h1,h⟩,M⟩;obtain ⟨l,xs,_,e0,e2,e3,aV,_⟩:=S.one hm h1;cases e0;refine ⟨_,e2,S.ev false h λd hd=>⟨trivial,λv G' H' S' x dv=>?_⟩⟩;obtain ⟨l2,rfl,hz,hn⟩:=hd;obtain ⟨p2,ys,rfl,h2,dz⟩:=dv.ik;refine ⟨_,_,_,_,rfl,rfl,x.hh _ _ e3,x.sub _ _ h2,by rw [aV.length,dz.length];exact hz,λp jn=>?_⟩
 obtain ⟨o1,o2,o3⟩:=gH x jn ((aV.mono x.gg).append dz);exact M.nx _ hn _ _ ⟨G',_,(S.grow (x.side jn)).rO hm o1 o2 (λb hb=>⟨S.ex.hh.free (o3 b hb).1,(o3 b hb).2⟩) λb hb j _ hj=>(S.nw j b hj).2.1 (o3 b hb).1⟩
end
section
variable {Z:DC} {X:Cx} {e:Expr} {te:aQ} {pos p:Pos}
def BU(w:World)(te:aQ):eU:=λρ P=>te ρ λd=>∃ns:List Int,d= .set (cO w) ns∧ns.length<64∧∀ms:List Int,ms.Perm ns→ms.Pairwise (·≤·)→P (ms.map D.int)
theorem xY(hc:X.calm=true)(hg:Gl X "sorted")(hm:X.mg "sorted"=none)(ha:DE Z X e te)(hs:starEach [e] X.env=(false,eval e X.env)::starEach [] X.env:=by rfl)(dG:(backTo pos (starEach [] X.env)).any (·.1)=false:=by rfl):DF Z X 1 (.Call (.Name "sorted" p) [e] [] pos) (BU X.w te):=by
 refine (m7 (qK hc) hg hm vf (cC ha fj hs) (by decide) (by decide) hs dG).imp ?_
 rintro σ H Q ⟨G,ρ,P,s,en,h,q⟩;refine ⟨G,ρ,_,s,en,h,?_⟩;rintro _ ⟨ns,rfl,hl,hp⟩ v G1 H1 x1 dv;cases dv with
 |set h1=>
  refine ⟨_,ns,rfl,x1.sub _ _ h1,hl,λa ms hn m1 m2=>?_⟩;obtain ⟨o1,o2,o3⟩:=gH x1 hn (au.ints (Z:=Z) (H:=G1) ms);exact q _ (hp _ m1 m2) _ _ _ _ (x1.side hn) o1 o2 o3
variable {o:Expr} {ta:aQ} {m:Str} {f:Addr} {fd:FuncData} {ps:List Str} {sd:cp} {k n:Nat} {apos:Pos}
end
section
variable {Z:DC} {X:Cx} {pins:List (Addr×Obj)} {σ:St} {H:Hp} {s:Shared} {o e:Expr} {ta tb:aQ} {apos:Pos}
end
theorem eu.ok{P:Program}{w:World}{H:Hp}{h:Heap}{a:Addr}{es:List (Int×Addr)}{vs:List FV}(x:eu a es vs h):bR P w H h a (.ext (eu a es vs)):=by
 refine ⟨x,let ⟨_,o,_,_,ho,_⟩:=x;⟨o,ho⟩,λh1 h2 p k=>?_⟩;obtain ⟨z,o,eA,ep,ho,r⟩:=p;exact ⟨z,o,eA,ep,k o ho,r⟩
inductive js (H:Hp):List (Int×Addr)→List (Int×Int)→List FV→List (List Int×Addr×Value)→Prop
 |nil:js H [] [] [] []
 |cons {a:Addr} {p:Int×Int} {v:FV} {u:Value} {es:List (Int×Addr)} {ks:List (Int×Int)} {vs:List FV} {xs:List (List Int×Addr×Value)}:H a=some (.tup [.int p.1, .int p.2])→Bw v u→js H es ks vs xs→js H ((cG p,a)::es) (p::ks) (v::vs) (([p.1,p.2],a,u)::xs)
theorem js.keys{H:Hp}:∀{es:List (Int×Addr)}{ks:List (Int×Int)}{vs:List FV}{xs:List (List Int×Addr×Value)},js H es ks vs xs→xs.map (·.1)=ks.map λp=> [p.1,p.2]
 |_,_,_,_, .nil=>rfl
 |_,_,_,_, .cons _ _ t=>by rw [jT,jT,t.keys]
theorem js.len{H:Hp}:∀{es:List (Int×Addr)}{ks:List (Int×Int)}{vs:List FV}{xs:List (List Int×Addr×Value)},js H es ks vs xs→xs.length=ks.length
 |_,_,_,_, .nil=>rfl
 |_,_,_,_, .cons _ _ t=>congrArg (·+1) t.len
theorem js.snoc{H:Hp}{a:Addr}{p:Int×Int}{v:FV}{u:Value}(h0:H a=some (.tup [.int p.1, .int p.2]))(h:Bw v u):∀{es:List (Int×Addr)}{ks:List (Int×Int)}{vs:List FV}{xs:List (List Int×Addr×Value)},js H es ks vs xs→js H (es++ [(cG p,a)]) (ks++ [p]) (vs++ [v]) (xs++ [([p.1,p.2],a,u)])
 |_,_,_,_, .nil=> .cons h0 h .nil
 |_,_,_,_, .cons k' h' t=> .cons k' h' (js.snoc h0 h t)
theorem nG(P:Program)(w:World)(p:Int×Int)(a:Addr)(u:Value):entryOfKey (tupleKind (intKind P w)) ([p.1,p.2],a,u)=⟨cG p, .ref a,u⟩:=by
 unfold entryOfKey;rw [show (tupleKind (intKind P w)).hash [p.1,p.2]=cG p from sT P w p]
theorem Fo{H:Hp}{l:List DictEntry}{es:List (Int×Addr)}{vs:List FV}(d:xN l es vs):∀{ks:List (Int×Int)},kf H es ks→∃xs,js H es ks vs xs∧∀(P:Program)(w:World),l=xs.map (entryOfKey (tupleKind (intKind P w))):=by
 induction d with
 |nil=>intro ks pe;cases pe;exact ⟨[], .nil,λ_ _=>rfl⟩
 | @cons e l h a v es vs h1 h2 h3 d ih=>
  intro ks pe;cases pe with
  | @cons _ p _ ps h t=>
   obtain ⟨xs,x1,x2⟩:=ih t;refine ⟨([p.1,p.2],a,e.val)::xs, .cons h h3 x1,λP w=>?_⟩;rw [jT,←x2 P w,nG];obtain ⟨eh,ek,ev⟩:=e;simp only at h1 h2 ⊢;rw [h1,h2]
theorem Ft{P:Program}{w:World}{es:List (Int×Addr)}{ks:List (Int×Int)}{vs:List FV}{xs:List (List Int×Addr×Value)}{H:Hp}(d:js H es ks vs xs):xN (xs.map (entryOfKey (tupleKind (intKind P w)))) es vs:=by
 induction d with
 |nil=>exact .nil
 |cons _ h t ih=>
  rw [jT,nG];exact .cons rfl rfl h ih
theorem js.isKey{H:Hp}{X:Cx}{pins:List (Addr×Obj)}{σ:St}{s:Shared}(I:Inv X pins σ H s){es:List (Int×Addr)}{ks:List (Int×Int)}{vs:List FV}{xs:List (List Int×Addr×Value)}(d:js H es ks vs xs):∀x∈xs,IsTupleKey (intKind X.prog X.w) s.heap x.1 x.2.1:=by
 induction d with
 |nil=>intro x hx;cases hx
 |cons h _ _ ih=>
  intro x hx
  rcases cV.mp hx with rfl|hx
  ·exact I.AV h
  ·exact ih x hx
theorem jw{K:Type} [DecidableEq K] {xs:List (K×Addr×Value)} {k:K}:(atKey xs k).isSome=true↔k∈xs.map (·.1):=by
 unfold atKey;rw [Option.isSome_map,List.find?_isSome,eO]
 constructor
 ·rintro ⟨x,hx,e⟩;exact ⟨x,hx,of_decide_eq_true e⟩
 ·rintro ⟨x,hx,e⟩;exact ⟨x,hx,decide_eq_true e⟩
theorem m6{p:Int×Int}{ks:List (Int×Int)}: [p.1,p.2]∈ks.map (λp=> [p.1,p.2])↔p∈ks:=by
 rw [eO]
 constructor
 ·rintro ⟨q,hq,e⟩
  simp at e;rw [←show q=p from Prod.ext e.1 e.2];exact hq
 ·intro h;exact ⟨p,h,rfl⟩
theorem uz{ks:List (Int×Int)}(h:ks.Nodup):(ks.map λp=> [p.1,p.2]).Nodup:=by
 rw [xF,n9];rw [xF] at h;exact h.imp λ {a b} n e=>n (by simp at e;exact Prod.ext e.1 e.2)
section
variable {X:Cx} {pins:List (Addr×Obj)} {σ:St} {H:Hp} {s:Shared}
theorem Inv.IG{a:Addr}{es:List (Int×Addr)}{ks:List (Int×Int)}{vs:List FV}(I:Inv X pins σ H s)(h:H a=some (.ext (eu a es vs)))(pe:kf H es ks)(nd:ks.Nodup):
  (a==sysModules)=false∧∃xs,js H es ks vs xs∧s.heap.DictOfH (tupleKind (intKind X.prog X.w)) a xs:=by
 obtain ⟨z,o,eA,ep,ho,hx,hd,de⟩:=(I.hok a _ h).1;obtain ⟨xs,x1,x2⟩:=Fo de pe;exact ⟨z,xs,x1,o,eA,ep,ho,hx,hd,x2 _ _,x1.isKey I,by rw [x1.keys];exact uz nd⟩
theorem AE{pos:Pos}:PE X (.Dict [] [] pos) (λσ H Q=>∀q,H q=none→Q (.ref q) (upd H q (.ext (eu q [] [])))):=by
 intro pins s σ H Q I h;have hn:=I.hok.fresh (bC s.heap.objs.size);refine wpAny_Dict_empty ⟨.ref s.heap.objs.size,_,I.laid (a:=s.heap.objs.size) (t':=s.toks) (λ_ _ q=>Heap.get?_push_of_some _ q) (bC _) (o:= .ext (eu s.heap.objs.size [] [])) (eu.ok ⟨?_,_, #[],0,Heap.get?_push_size _ rfl,⟨rfl,rfl,rfl⟩,rfl, .nil⟩),rfl,h _ hn⟩;have hg:mainGlobals<s.heap.objs.size:=(I.mod.glob.keeps I.bk).lt;have hs:sysModules<s.heap.objs.size:=Nat.lt_trans (by decide) hg
 exact beq_eq_false_iff_ne.mpr (Ne.symm (cn hs))
theorem ux(hu:X.A.units+64<cLine):OpR X (compareOp .NotIn) (λx y H Q=>∃c a es ks vs p,x= .ref c∧y= .ref a∧H c=some (.tup [.int p.1, .int p.2])∧H a=some (.ext (eu a es vs))∧kf H es ks∧ks.Nodup∧Q (.bl (!decide (p∈ks))) H):=by
 intro pins s σ H x y v u Q I rx ry h;obtain ⟨c,a,es,ks,vs,p,rfl,rfl,hc,ha,pe,nd,q⟩:=h;cases rx;cases ry;obtain ⟨z,xs,x1,hm⟩:=I.IG ha pe nd
 have:(atKey xs [p.1,p.2]).isSome=decide (p∈ks):=by
  by_cases e:p∈ks
  ·rw [decide_eq_true e];exact jw.mpr (by rw [x1.keys];exact m6.mpr e)
  ·rw [decide_eq_false e]
   apply mx.mpr;exact λz=>e (m6.mp (by rw [←x1.keys];exact jw.mp z))
 exact PyProof.Rows.wpAny_notIn_heap (knd:=tupleKind (intKind X.prog X.w)) (k:= [p.1,p.2]) (by show X.A.units+1<cLine;omega) (I.AV hc) z hm (by rw [this];exact ⟨.bl _,H,I.tok _,rfl,q⟩)
def vF:FV→V
 | .int i=> .int i
 | .bl b=> .bl b
theorem BX{f:FV}{u:Value}(h:RelV (vF f) u):Bw f u:=by
 cases f with
 |int i=>exact h
 |bl b=>exact h
variable {o i value:Expr} {td ti tv:TE} {pos pos':Pos}
def GI(td ti tv:TE):TS:=λD σ H=>tv σ H λv H1=>td σ H1 λx H2=>ti σ H2 λy H3=>∃a c es ks vs p fv,x= .ref a∧y= .ref c∧v=vF fv∧H3 a=some (.ext (eu a es vs))∧H3 c=some (.tup [.int p.1, .int p.2])∧kf H3 es ks∧ks.Nodup∧p∉ks∧ks.length≤300∧D.nx σ (upd H3 a (.ext (eu a (es++ [(cG p,c)]) (vs++ [fv]))))
theorem AR(hu:X.A.units+64<cLine)(ho:PE X o td)(hi:PE X i ti)(hv:PE X value tv)(hs:swapsWith value (some (.Subscript o i pos')) pos.line X.env=pure false:=by rfl):PS X (.Assign [.Subscript o i pos'] value pos) (GI td ti tv):=by
 intro pins s σ H D I h;refine wpAny_Assign_Subscript (thn (hv pins s σ H _ I h) λr s1 ⟨v,H1,I1,rv,q1⟩=>thn (ho pins s1 σ H1 _ I1 q1) λu s2 ⟨x,H2,I2,rx,q2⟩=>thn (hi pins s2 σ H2 _ I2 q2) λiv s3 ⟨y,H3,I3,ry,a,c,es,ks,vs,p,fv,e1,e2,e3,ha,hc,pe,nd,np,hz,q3⟩=>?_) hs;subst e1 e2 e3;cases rx;cases ry;obtain ⟨z,xs,x1,hm⟩:=I3.IG ha pe nd;refine wpAny_setItem_heap (knd:=tupleKind (intKind X.prog X.w)) (k:= [p.1,p.2]) (by show X.A.units+1<cLine;omega) (I3.AV hc) hm (λh' vM sb=>?_) (small (by rw [x1.len];omega))
 have na:atKey xs [p.1,p.2]=none:=by
  cases e:atKey xs [p.1,p.2] with
  |none=>rfl
  |some q=>exact absurd (m6.mp (by rw [←x1.keys];exact jw.mp (by rw [e];rfl))) np
 rw [storedH_new na] at vM;have x2:js H3 (es++ [(cG p,c)]) (ks++ [p]) (vs++ [fv]) (xs++ [([p.1,p.2],c,r)]):=x1.snoc hc (BX rv);obtain ⟨o',N2,su,ic,Aa,jC,zU,_,_⟩:=vM;have I':=I3.write (h':=h') (t':=s3.toks+(tupleKind (intKind X.prog X.w)).draws [p.1,p.2]) (x:=a) (e:=a) (o:= .ext (eu a (es++ [(cG p,c)]) (vs++ [fv]))) (by rw [ha];trivial) (.inl rfl) (λb u hb e=>sb.extBut b u hb e) ⟨o',ic⟩ (eu.ok ⟨z,o',N2,su,ic,Aa,jC,by rw [zU];exact Ft x2⟩)
 exact ⟨σ,_,I',q3⟩
end
section
variable {Z:DC} {X:Cx} {B:Bs} {md:List Nat} {rn:Nat} {ρ:DN} {σ:St} {H G:Hp} {fp:Nat→List Addr} {a e k o:Expr} {ta te tk tp:aQ} {pos apos aP p2:Pos}
def HV(neg:Bool):dM:=λa b P=>∃p ks vs,a=Gn p∧b= .x (.lW ks vs)∧P (.bl (if neg=true then !decide (p∈ks) else decide (p∈ks)))
theorem wd(hu:X.A.units+64<cLine):OpR X (compareOp .NotIn) (bh Z (HV true)):=by
 refine (ux hu).imp ?_;rintro x y H Q ⟨G,a,b,P,s,da,db,⟨p,ks,vs,rfl,rfl,h⟩,q⟩;obtain ⟨c,rfl,hc⟩:=da.Eg;cases db with
 |x hp ok=>
  obtain ⟨nd,es,rfl,pe⟩:=ok;exact ⟨c,_,es,ks,vs,p,rfl,rfl,s _ _ hc,s _ _ hp,pe.mono s,nd,q _ h _ G H (.refl s) (.bl _)⟩
def E2(i:Nat):bP:=λE ρ=>E.nx (ρ.set i (some (.x (.lW [] []))))
theorem zC(i:Nat){x:Str}{pos':Pos}(hN:X.N.Nodup)(hm:md.getD i 0=98:=by rfl)(hi:X.N[i]? =some x:=by rfl)(hx:Loc X.env.scope x:=by first|exact Or.inl rfl|exact Or.inr rfl)(hs:swapsWith (.Dict [] [] p2) (some (.Name x pos')) pos.line X.env=pure false:=by rfl)
  (hf:X.fn x=true∨X.env.scope.names.lookup x=some .local:=by first|exact .inl rfl|exact .inr rfl|assumption):DSt Z X md rn (.Assign [.Name x pos'] (.Dict [] [] p2) pos) (E2 i):=by
 refine (fk hN hi hx AE hs hf).imp ?_;rintro D σ H ⟨B,ρ,E,⟨G,fp,S⟩,h,M⟩;intro c hc;have gc:G c=none:=S.ex.sub.free hc;have x:Ext G H G (upd H c (.ext (eu c [] []))):=⟨.refl _,S.ex.sub.trans (aK hc _),aK hc _,λ_ _ z=>z⟩;refine M.nx _ h _ _ ⟨G,_,(S.grow x).rO hm (f:= [c]) (.inr (.inr ⟨c,_,rfl,av,rfl, .inr ⟨rfl,_,rfl,fW,[],rfl, .nil⟩⟩)) (by simp) (λb hb=>?_) λb hb j _ hj=>?_⟩
 ·rw [cE] at hb;subst hb
  exact ⟨S.ex.hh.free hc,(by rw [av];exact λz=>nomatch z),gc⟩
 ·rw [cE] at hb;subst hb
  exact (S.nw j _ hj).2.1 hc
def IZ:FV→D
 | .int i=> .int i
 | .bl b=> .bl b
theorem Dv.K7{v:V}{f:FV}(h:Dv Z G v (IZ f)):v=vF f:=by
 cases f with
 |int i=>exact h.ofInt
 |bl b=>exact h.K6
def Ff(md:List Nat)(i:Nat)(tk te:aQ):bP:=λE ρ=>te (ck md ρ) λd=>∃fv ks vs,d=IZ fv∧ρ[i]? =some (some (.x (.lW ks vs)))∧tk (ck md ρ) λkd=>∃p,kd=Gn p∧p∉ks∧ks.length≤300∧E.nx (ρ.set i (some (.x (.lW (ks++ [p]) (vs++ [fv])))))
theorem zG(i:Nat){x:Str}{px pos':Pos}(hu:X.A.units+64<cLine)(hk:DE Z X k tk)(he:DE Z X e te)(hm:md.getD i 0=98:=by rfl)(hi:X.N[i]? =some x:=by rfl)(hv:iS X.env.scope x:=by first|exact Or.inl rfl|exact Or.inr (Or.inl rfl) |exact Or.inr (Or.inr rfl))(hd:(x==("__debug__":Str))=false:=by decide)(cI:(x==("__classdict__":Str))=false:=by decide)
  (hs:swapsWith e (some (.Subscript (.Name x px) k pos')) pos.line X.env=pure false:=by rfl):DSt Z X md rn (.Assign [.Subscript (.Name x px) k pos'] e pos) (Ff md i tk te):=by
 refine (AR hu (pv i hi hv hd cI) hk he hs).imp ?_;rintro D σ H ⟨B,ρ,E,⟨G,fp,S⟩,h,M⟩;refine S.ev false h λd hd=>⟨trivial,λv G1 H1 S1 x1 dv=>?_⟩;obtain ⟨fv,ks,vs,rfl,h1,h2⟩:=hd;obtain rfl:=dv.K7;obtain ⟨v0,jD,o0⟩:=S1.at_ i _ h1;rw [hm] at o0;obtain ⟨l,φ,rfl,hl,_,nd,es,rfl,pe⟩:=o0.xA;refine ⟨_,jD,S1.ev false h2 λkd zZ=>⟨trivial,λu G2 H2 S2 x2 du=>?_⟩⟩;obtain ⟨p,rfl,np,hz,hn⟩:=zZ;obtain ⟨c,rfl,hc⟩:=du.Eg;obtain ⟨v1,z9,o1⟩:=S2.at_ i _ h1;rw [jD] at z9;cases z9;rw [hm] at o1;obtain ⟨l',Tf,e',FQ,vJ,uw,gz,rfl,Lb⟩:=o1.xA;cases e';refine ⟨l,c,gz,ks,vs,p,fv,rfl,rfl,rfl,FQ,x2.sub _ _ hc,Lb.mono x2.sub,uw,np,hz,M.nx _ hn _ _ ⟨G2,fp,S2.mut jD (b:=l) (by rw [vJ];simp) ?_⟩⟩
 rw [hm,vJ];refine .inr (.inr ⟨l,_,rfl,av,rfl, .inr ⟨rfl,_,rfl,?_,_,rfl,Lb.snoc hc⟩⟩);rw [jS];refine ⟨uw,by simp,λa ha b hb z=>np ?_⟩
 rw [cE] at hb;rw [←hb,←z];exact ha
end
end L2
namespace Wy
section
variable {α β:Type}
end
theorem getD_mem{l:List Nat}{i:Nat}(h:i<l.length):l.getD i 0∈l:=by
 rw [cP,eN h];exact og h
end Wy
namespace L2
open PySem PySem.Spec PyProof.Rows
section
variable {Z:DC} {X:Cx} {B:Bs} {md:List Nat} {rn:Nat} {ρ:DN} {σ:St} {H G:Hp} {fp:Nat→List Addr} {k:Expr} {tk:aQ} {pos:Pos}
def E3(md:List Nat)(i j:Nat)(tk:aQ):bP:=λE ρ=>∃ds,ρ[j]? =some (some (.lst ds))∧tk (oG md false ρ) λkd=>∃(n:Int)(d:D),kd= .int n∧cX ds n=some d∧E.nx (ρ.set i (some d))
theorem zD(i j:Nat){x y:Str}{px py ps:Pos}(hN:X.N.Nodup)(hk:DE Z X k tk)(hm:md.getD i 0=0:=by rfl)(yk:md.getD j 0=1:=by rfl)(hi:X.N[i]? =some x:=by rfl)(hx:Loc X.env.scope x:=by first|exact Or.inl rfl|exact Or.inr rfl)
  (hj:X.N[j]? =some y:=by rfl) (hv:iS X.env.scope y:=by first|exact Or.inl rfl|exact Or.inr (Or.inl rfl) |exact Or.inr (Or.inr rfl)) (hd:(y==("__debug__":Str))=false:=by decide) (cI:(y==("__classdict__":Str))=false:=by decide)
  (hp:ju k:=by exact λ_ _=>rfl) (hs:swapsWith (.Subscript (.Name y py) k ps) (some (.Name x px)) pos.line X.env=pure false:=by rfl)
  (hf:X.fn x=true∨X.env.scope.names.lookup x=some .local:=by first|exact .inl rfl|exact .inr rfl|assumption):DSt Z X md rn (.Assign [.Name x px] (.Subscript (.Name y py) k ps) pos) (E3 md i j tk):=by
 refine (fk hN hi hx (sW lO (pv j hj hv hd cI) hk hp) hs hf).imp ?_;rintro D σ H ⟨B,ρ,E,⟨G,fp,S⟩,⟨ds,h1,h⟩,M⟩;obtain ⟨l,xs,dr,e1,e2,e3,aV,put⟩:=S.one yk h1;cases e1;refine ⟨_,e2,S.ev false h λkd zZ=>⟨trivial,λv G' H' S' x dv=>?_⟩⟩;obtain ⟨n,d,rfl,ha,hn⟩:=zZ;cases dv;obtain ⟨l',fG,Sy,Fp,gW,sr,II,_⟩:=S'.one yk h1;cases Fp;rw [e2] at gW;cases gW;obtain ⟨u,hu,so⟩:=r6 II ha;exact ⟨l,fG,n,u,rfl,rfl,bE.of sr,hu,M.nx _ hn _ _ ⟨G',_,S'.qu hm so⟩⟩
end
section
variable {Z:DC} {X:Cx} {B:Bs} {md:List Nat} {rn:Nat} {ρ:DN} {σ:St} {H G:Hp} {fp:Nat→List Addr} {k c e k1 k2 et:Expr} {tk te tt tk1 Df:aQ} {tc:b6} {pos:Pos}
def wY(md:List Nat)(ix iy ia:Nat)(tk:aQ)(tc:b6)(te tt tk1 Df:aQ):bP:=λE ρ=>∃fA,ρ[ix]? =some (some (.lst fA))∧(iy<ρ.length∧ia<ρ.length)∧tk (oG md false ρ) λkd=>∃(n:Int)(j:Nat)(ds:List D),kd= .int n∧ee fA.length n=some j∧fA[j]? =some (.lst ds)∧
 ∀l:Addr,tc (ρ.set iy (some (.lst ds))) λb=>if b=true then te (ρ.set iy (some (.lst ds))) λd=>∃m,d= .int m∧tt ((ρ.set iy (some (.lst ds))).set ia (some (.int m))) λd=>∃i1 i2,d= .tup [.int i1, .int i2]∧
  tk1 (oG md false ((ρ.set iy (some (.obj l))).set ia (some (.int m)))) λd1=>∃n1 j1,d1= .int n1∧ee ds.length n1=some j1∧Df (oG md false (((ρ.set iy (some (.obj l))).set ia (some (.int m))).set ix (some (.lst (fA.set j (.lst (ds.set j1 (.int i1)))))))) λd2=>∃n2 j2,d2= .int n2∧ee ds.length n2=some j2∧
   E.nx (((ρ.set iy (some (.obj l))).set ia (some (.int m))).set ix (some (.lst (fA.set j (.lst ((ds.set j1 (.int i1)).set j2 (.int i2)))))))
 else E.nx (ρ.set iy (some (.obj l)))
theorem b7.as{σ:St}{ρ:DN}{i:Nat}{v:V}{o:Option D}{d:D}(e:b7 Z G σ (ρ.set i o))(h:σ[i]? =some (some v))(dv:Dv Z G v d):b7 Z G σ (ρ.set i (some d)):=by
 have:=e.set (i:=i) dv
 rw [List.set_set] at this
 have hs:σ.set i (some v)=σ:=by
  apply List.ext_getElem?;intro j
  by_cases z:i=j
  ·subst z
   rw [gO (by
    apply Classical.byContradiction;intro q;rw [h8 (gQ q)] at h;cases h),h]
  ·rw [gP z]
 rw [hs] at this;exact this
theorem SIx.GK{i p:Nat}{fA:List D}{dp:D}{T l:Addr}{ys:List V}(S:SIx Z B md ρ σ H G fp)(hm:md.getD i 0=2)(h:ρ[i]? =some (some (.lst fA)))(hp:fA[p]? =some dp)(hT:σ[i]? =some (some (.ref T)))(hy:H T=some (.lst ys))(hl:ys[p]? =some (.ref l)):T≠l:=by
 obtain ⟨v,hv,o⟩:=S.at_ i _ h;rw [hm] at o;obtain ⟨T',Tc,NV,fK,rfl,e0,Ji,hf,ol⟩:=o.lst;cases e0;rw [hT] at hv;cases hv;rw [hy] at Ji;cases Ji;have nd:=S.nd i;rw [hf] at nd;obtain ⟨nT,sO⟩:=jj.mp nd;obtain ⟨l',xs,ds,e1,e2,e3,e4,e5,e6⟩:=bU.EA p ol sO hp;rw [hl] at e2;cases e2;exact λz=>nT (by rw [z];exact e5)
theorem vq(ix iy ia:Nat){x y a:Str}{px py ps pa La qq nh qo m9 pt pi pq:Pos}{kt:Nat}{rest:List Stmt}{u:bP}(hN:X.N.Nodup)(FF:X.calm=true)(hk:DE Z X k tk)(hc:DT Z X c tc)(he:DE Z X e te)(ht:DE Z X et tt)(JA:DE Z X k1 tk1)(OH:DE Z X k2 Df)(hu:DSs Z X md rn rest u)
  (Kq:ix≠iy:=by decide) (Kp:ix≠ia:=by decide) (Kr:iy≠ia:=by decide) (B2:md.getD ix 0=2:=by rfl) (ON:md.getD iy 0=0:=by rfl) (OL:md.getD ia 0=0:=by rfl)
  (OD:X.N[ix]? =some x:=by rfl) (FO:X.N[iy]? =some y:=by rfl) (OB:X.N[ia]? =some a:=by rfl) (OK:Loc X.env.scope y:=by first|exact Or.inl rfl|exact Or.inr rfl) (OJ:Loc X.env.scope a:=by first|exact Or.inl rfl|exact Or.inr rfl)
  (O2:iS X.env.scope x:=by first|exact Or.inl rfl|exact Or.inr (Or.inl rfl) |exact Or.inr (Or.inr rfl)) (JM:iS X.env.scope y:=by first|exact Or.inl rfl|exact Or.inr (Or.inl rfl) |exact Or.inr (Or.inr rfl))
  (FI:(x==("__debug__":Str))=false:=by decide) (Oq:(x==("__classdict__":Str))=false:=by decide) (Ju:(y==("__debug__":Str))=false:=by decide) (Jt:(y==("__classdict__":Str))=false:=by decide)
  (hp:ju k:=by exact λ_ _=>rfl) (hs:swapsWith (.Subscript (.Name x px) k ps) (some (.Name y py)) pos.line X.env=pure false:=by rfl) (iX:swapsWith e (some (.Name a pa)) La.line X.env=pure false:=by rfl)
  (hf:X.fn y=true∨X.env.scope.names.lookup y=some .local:=by first|exact .inl rfl|exact .inr rfl|assumption) (Ox:X.fn a=true∨X.env.scope.names.lookup a=some .local:=by first|exact .inl rfl|exact .inr rfl|assumption)
  (Oj:∀v,assign (.Subscript (.Name y qq) k1 qo) X.env v=(do
   let ov ←holding [v] (eval (.Name y qq) X.env)
   let iv ←holding [v,ov] (eval k1 X.env)
   standAt qo
   holding [v,ov,iv] (setItem ov iv v)
   release [v,ov,iv] []):=by intro _;rfl)
  (zQ:∀v,assign (.Subscript (.Name y nh) k2 m9) X.env v=(do
   let ov ←holding [v] (eval (.Name y nh) X.env)
   let iv ←holding [v,ov] (eval k2 X.env)
   standAt m9
   holding [v,ov,iv] (setItem ov iv v)
   release [v,ov,iv] []):=by intro _;rfl)
  (q1:swapsWithSole [.Tuple [.Subscript (.Name y qq) k1 qo, .Subscript (.Name y nh) k2 m9] kt pt] et pq.line X.env=pure false:=by rfl) (q2:swappedStores [.Tuple [.Subscript (.Name y qq) k1 qo, .Subscript (.Name y nh) k2 m9] kt pt] et X.env=pure none:=by rfl)
  (q3:(assignEach [.Tuple [.Subscript (.Name y qq) k1 qo, .Subscript (.Name y nh) k2 m9] kt pt] X.env).map (·.2)= [assign (.Tuple [.Subscript (.Name y qq) k1 qo, .Subscript (.Name y nh) k2 m9] kt pt) X.env]:=by rfl)
  (q4:(assignEach [.Subscript (.Name y qq) k1 qo, .Subscript (.Name y nh) k2 m9] X.env).map (·.2)=assign (.Subscript (.Name y qq) k1 qo) X.env::(assignEach [.Subscript (.Name y nh) k2 m9] X.env).map (·.2):=by rfl)
  (q5:(assignEach [.Subscript (.Name y nh) k2 m9] X.env).map (·.2)=assign (.Subscript (.Name y nh) k2 m9) X.env::(assignEach [] X.env).map (·.2):=by rfl)
  (q6:(assignEach [.Subscript (.Name y qq) k1 qo, .Subscript (.Name y nh) k2 m9] X.env).length=2:=by rfl) (q7:(assignEach [.Subscript (.Name y qq) k1 qo, .Subscript (.Name y nh) k2 m9] X.env).findIdx? (·.1)=none:=by rfl):
  DSs Z X md rn (.Assign [.Name y py] (.Subscript (.Name x px) k ps) pos:: .If c [.Assign [.Name a pa] e La, .Assign [.Tuple [.Subscript (.Name y qq) k1 qo, .Subscript (.Name y nh) k2 m9] kt pt] et pq] [] pi::rest) (qX (wY md ix iy ia tk tc te tt tk1 Df) u):=by
 refine (dU (fk hN FO OK (sW lO (pv ix OD O2 FI Oq) hk hp) hs hf) (dU (AQ hc (dU (fk hN OB OJ he iX Ox) (qp (tj ht (xr FF (m8 (oS (pv iy FO JM Ju Jt) JA set_list Oj) (m8 (oS (pv iy FO JM Ju Jt) OH set_list zQ) uD q5) q4) q6 q7) q1 q2 q3))) uG) hu)).imp ?_;rintro Dn σ H ⟨B,ρ,E,⟨G,fp,S⟩,⟨fA,hx,⟨ly,la⟩,h⟩,M⟩;obtain ⟨v0,jD,o⟩:=S.at_ ix _ hx;refine ⟨_,jD,S.ev false h λkd zZ=>⟨trivial,λv G1 H1 S1 x1 dv=>?_⟩⟩;obtain ⟨n,j,ds,rfl,hj,zY,h⟩:=zZ;cases dv;obtain ⟨Tl,ys,l,xs,dr,e1,e2,e3,e4,e5,e6,aV,_⟩:=S1.two B2 hx zY;cases e1;rw [e2] at jD;cases jD;refine ⟨Tl,ys,n, .ref l,rfl,rfl,bE.of e3,r8 e4 hj e5,?_⟩;have h:=h l;have S2:=S1.qu (i:=iy) (v:= .ref l) (d:= .obj l) ON (.obj l);have QT:iy<σ.length:=by rw [←S1.len];exact ly
 have SU:ia<σ.length:=by rw [←S1.len];exact la
 have gy:(σ.set iy (some (V.ref l)))[iy]? =some (some (.ref l)):=gO QT;have IH:Dv Z H1 (.ref l) (.lst ds):= .lst e6 (aV.mono S1.ex.sub);refine ⟨H1,_,_, .refl _,S2.nH.as gy IH,h,λb hb G3 H3 x3=>?_⟩;have S3:=S2.grow (Ext.all S2.ex.sub x3);cases b with
 |false=>exact bX ⟨B,_,E,⟨_,_,S3⟩,(by simpa using hb),M⟩
 |true=>
  refine cq ?_;rw [if_pos rfl] at hb;have D3:Dv Z H3 (.ref l) (.lst ds):=IH.mono x3.hh;refine ⟨H3,_,_, .refl _,S3.nH.as gy D3,hb,?_⟩;rintro _ ⟨m,rfl,hb⟩ v G4 H4 x4 NY;cases NY;have S4:=(S3.grow (Ext.all S3.ex.sub x4)).qu (i:=ia) (v:= .int m) (d:= .int m) OL (.int m);have Fx:((σ.set iy (some (V.ref l))).set ia (some (.int m)))[iy]? =some (some (.ref l)):=by rw [gP (Ne.symm Kr)];exact gy
  have cm:∀o:Option D,(ρ.set iy o).set ia (some (.int m))=(ρ.set ia (some (.int m))).set iy o:=λo=>List.set_comm _ _ Kr;have t6:=S4.nH;rw [cm] at t6;have t6:=t6.as Fx (D3.mono x4.hh);rw [←cm] at t6;refine ⟨H4,_,_, .refl _,t6,hb,?_⟩;rintro _ ⟨i1,i2,rfl,hb⟩ v G5 H5 x5 NZ;obtain ⟨a5,Tb,rfl,h5,d5⟩:=NZ.kR;obtain ⟨w1,w2,rfl,NB,ND⟩:=d5.wg;cases NB;cases ND;have S5:=S4.grow (Ext.all S4.ex.sub x5);refine ⟨a5,_,rfl,ed.of (x5.sub _ _ h5),rfl,?_⟩;refine ⟨_,_,rfl,_,Fx,S5.ev false hb λd1 zT=>⟨trivial,λv G6 H6 S6 x6 Fm=>?_⟩⟩;obtain ⟨n1,j1,rfl,OF,hb⟩:=zT;cases Fm;have B5:((ρ.set iy (some (.obj l))).set ia (some (.int m)))[ix]? =some (some (.lst fA)):=by rw [gP (Ne.symm Kp),gP (Ne.symm Kq)];exact hx
  have sx:((σ.set iy (some (V.ref l))).set ia (some (.int m)))[ix]? =some (some (.ref Tl)):=by rw [gP (Ne.symm Kp),gP (Ne.symm Kq)];exact e2
  have Fq:H6 Tl=some (.lst ys):=x6.hh _ _ (x5.hh _ _ (x4.hh _ _ (x3.hh _ _ e3)));have ne:Tl≠l:=S6.GK B2 B5 zY sx Fq e5;obtain ⟨T6,Td,l6,Sg,Sz,f1,f2,f3,f4,f5,f6,D4,put⟩:=S6.two B2 B5 zY;cases f1;rw [sx] at f2;cases f2;rw [Fq] at f3;cases f3;rw [e5] at f5;cases f5;refine ⟨l,Sg,n1,j1,rfl,rfl,f6,by rw [D4.length];exact OF,?_⟩
  have S7:=put _ _ (D4.set (.int i1) j1);refine ⟨_,_,rfl,_,Fx,S7.ev false hb λd2 hd2=>⟨trivial,λv G8 H8 S8 x8 N0=>?_⟩⟩;obtain ⟨n2,j2,rfl,OG,hb⟩:=hd2;cases N0
  have lx:ix<((ρ.set iy (some (.obj l))).set ia (some (.int m))).length:=by
   apply Classical.byContradiction;intro q;rw [h8 (gQ q)] at B5;cases B5
  have lj:j<fA.length:=by
   apply Classical.byContradiction;intro q;rw [h8 (gQ q)] at zY;cases zY
  obtain ⟨T8,Te,l8,Sh,SA,g1,g2,g3,g4,g5,g6,D5,Lv⟩:=S8.two B2 (gO lx) (gO lj);cases g1;rw [sx] at g2;cases g2;rw [x8.hh _ _ (show upd H6 l _ Tl=some (.lst ys) by rw [ax ne];exact Fq)] at g3
  cases g3;rw [e5] at g5;cases g5;refine ⟨l,Sh,n2,j2,rfl,rfl,g6,by rw [D5.length,eM];exact OG,rfl,?_⟩
  have S9:=Lv _ _ (D5.set (.int i2) j2);rw [List.set_set,List.set_set] at S9;exact ⟨B,_,E,⟨_,_,S9⟩,hb,M⟩
variable {elt tg iter:Expr} {ifs:List Expr} {scope:Scope} {NC:List Str} {src:List (Option Nat)} {Mj:b6} {wi:gT} {g:dB}
theorem v5{i:Nat}{t:eU}{D':Ends}{E:cv}(hm:md.getD i 0=1)(S:SIx Z B md ρ σ H G fp)(h:t ρ λds=>ds.all bY=true∧E.nx (ρ.set i (some (.lst ds))))(M:Meets Z B md rn E D'):kM Z 1 t σ H λv H'=>D'.nx (σ.set i (some v)) H':=by
 refine ⟨H,ρ,_, .refl _,S.nH,h,?_⟩;rintro ds ⟨zV,hd⟩ v f G' H' x o nd nw;have S':=S.grow (Ext.all S.ex.sub x);obtain ⟨a,xs,dr,fK,rfl,e1,ha,vI,ol⟩:=o.lst;cases e1;obtain ⟨dv,rfl⟩:=ol.flat;have hb:H a=none:=(nw a (by rw [vI];simp)).1
 refine M.nx _ hd _ _ ⟨G,_,S'.rO (f:= [a]) hm (.inl ⟨a,xs,ds,[],rfl,rfl,ha,rfl,(dv.flat zV).own⟩) (by simp) (λb kI=>?_) λb kI j _ hj=>?_⟩
 ·have:b=a:=by simpa using kI
  subst this;exact ⟨S.ex.hh.free hb,(nw b (by rw [vI];simp)).2.1,S.ex.sub.free hb⟩
 ·have:b=a:=by simpa using kI
  subst this;exact (S.nw j b hj).2.1 hb
theorem pI(i:Nat){x:Str}{px hZ:Pos}(hc:X.calm=true)(hN:X.N.Nodup)(c:bG X scope)(dS:b8 scope X.N src NC)(hi:DI Z X tg iter wi)
  (hg:∀ex s H,DG Z (dN X scope NC ex s H) tg g) (ht:∀ex s H,u7 Z (dN X scope NC ex s H) ifs Mj) (he:∀ex s H,DE Z (dN X scope NC ex s H) elt te)
  (iY:swapsWith (.ListComp elt [⟨tg,iter,ifs,0⟩] scope pos) (some (.Name x px)) hZ.line X.env=pure true:=by rfl) (hm:md.getD i 0=1:=by rfl) (qM:X.N[i]? =some x:=by rfl) (hx:Loc X.env.scope x:=by first|exact Or.inl rfl|exact Or.inr rfl)
  (hf:X.fn x=true∨X.env.scope.names.lookup x=some .local:=by first|exact .inl rfl|exact .inr rfl|assumption)
  (hs:∀x,foldedSetIterable iter X.env x=pure x:=by intro _;rfl):DSt Z X md rn (.Assign [.Name x px] (.ListComp elt [⟨tg,iter,ifs,0⟩] scope pos) hZ) (zo i (BS wi g Mj te src)):=by
 refine (j7 hc hN qM hx c dS hi hg ht he iY hf hs).imp ?_;rintro Dn σ H ⟨B,ρ,E,⟨G,fp,S⟩,h,M⟩;exact p4 σ H _ (v5 hm S h M)
end
section
variable {Z:DC} {X:Cx} {md:List Nat} {rn:Nat} {e e2 k:Expr} {pos p2 apos aP:Pos} {tp:aQ} {t u:eU}
def IU(t u:eU):eU:=λρ P=>t ρ λa=>u ρ λb=>P [.lst a, .lst b]
theorem BJ(ha:DF Z X 1 e t)(hb:DF Z X 1 e2 u)(hs:starEach [e,e2] X.env=(false,eval e X.env)::starEach [e2] X.env:=by rfl)(iX:starEach [e2] X.env=(false,eval e2 X.env)::starEach [] X.env:=by rfl):DF Z X 2 (.List [e,e2] pos) (IU t u):=by
 refine (oR (cC ha (cC hb fj iX) hs)).imp ?_;rintro σ H Q ⟨G,ρ,P,s,en,h,q⟩;refine ⟨G,ρ,_,s,en,h,λl1 h1 v1 f1 G1 H1 x1 o1 Kj yx=>?_⟩;refine ⟨G1,ρ,_,x1.sub,en.mono x1.gg,h1,λl2 h2 v2 f2 G2 H2 x2 o2 sO Aq=>⟨by show 2≤sizeLine;decide,λp hp=>?_⟩⟩
 have k1:∀b∈f1,H2 b≠none:=λb hb=>eI x2.hh (yx b hb).2.1;have n1:∀b∈f1,b≠p:=λb hb z=>k1 b hb (by rw [z];exact hp)
 have n2:∀b∈f2,b≠p:=λb hb z=>(Aq b hb).2.1 (by rw [z];exact hp)
 refine q _ h2 (.ref p) (p::(f1++(f2++ []))) G2 _ ((x1.trans x2).side hp) (.inl ⟨p,[v1,v2],_,_,rfl,rfl,av,rfl,?_⟩) ?_ ?_
 ·refine .cons (o1.keep x2.gg λb hb=>?_) (.cons (o2.keep (.refl _) λb hb=>ax (n2 b hb)) .nil)
  rw [ax (n1 b hb)];cases z:H1 b with
  |none=>exact absurd z (yx b hb).2.1
  |some o=>exact x2.hh _ _ z
 ·rw [mz,jj,jS]
  refine ⟨λz=>?_,Kj,sO,λa ha b hb z=>?_⟩
  ·rcases cu.mp z with z|z
   ·exact n1 p z rfl
   ·exact n2 p z rfl
  ·subst z
   exact (yx a ha).2.1 (Aq a hb).1
 ·intro b hb
  rw [mz] at hb
  rcases cV.mp hb with rfl|hb
  ·exact ⟨x1.hh.free (x2.hh.free hp),(by rw [av];exact λz=>nomatch z),x2.sub.free hp⟩
  ·rcases cu.mp hb with hb|hb
   ·exact ⟨(yx b hb).1,(by rw [ax (n1 b hb)];exact k1 b hb),x2.off b (yx b hb).2.1 (yx b hb).2.2⟩
   ·exact ⟨x1.hh.free (Aq b hb).1,(by rw [ax (n2 b hb)];exact (Aq b hb).2.1),(Aq b hb).2.2⟩
def ze(i:Nat)(tp:aQ):bP:=λE ρ=>∃fA,ρ[i]? =some (some (.lst fA))∧tp ρ λpp=>∃p j ds,pp= .int p∧ee fA.length p=some j∧fA[j]? =some (.lst ds)∧E.nx (ρ.set i (some (.lst (fA.set j (.lst [])))))
theorem vj(i:Nat){x:Str}{px ps:Pos}(hp:DE Z X k tp)(hm:md.getD i 0=2:=by rfl)(OW:ju k:=by exact λ_ _=>rfl)
  (hi:X.N[i]? =some x:=by rfl) (hv:iS X.env.scope x:=by first|exact Or.inl rfl|exact Or.inr (Or.inl rfl) |exact Or.inr (Or.inr rfl)) (hd:(x==("__debug__":Str))=false:=by decide) (cI:(x==("__classdict__":Str))=false:=by decide)
  (cw:attributeBase (.Subscript (.Name x px) k ps) "clear" X.env (eval (.Subscript (.Name x px) k ps) X.env)=eval (.Subscript (.Name x px) k ps) X.env:=by rfl) (cg:(apos.endLine==aP.line)=true:=by rfl)
  (iY:swapsWith (.Call (.Attribute (.Subscript (.Name x px) k ps) "clear" apos) [] [] aP) none pos.line X.env=pure false:=by rfl):DSt Z X md rn (.Expr (.Call (.Attribute (.Subscript (.Name x px) k ps) "clear" apos) [] [] aP) pos) (ze i tp):=by
 refine (jH (xq PySem.F.plainAttrs_list PySem.F.slot_list_clear PySem.F.type_list_clear yv (sW lO (pv i hi hv hd cI) hp OW) cw cg) iY).imp ?_;rintro Dn σ H ⟨B,ρ,E,⟨G,fp,S⟩,⟨fA,h1,h⟩,M⟩;obtain ⟨v0,jD,o⟩:=S.at_ i _ h1;refine ⟨_,jD,S.ev true h ?_⟩;rintro _ ⟨p,j,ds,rfl,hj,hd,h⟩;refine ⟨rfl,λv1 G1 H1 S1 x1 vt=>?_⟩;cases vt;obtain ⟨T,ys,l,xs,dr,e1,e2,e3,e4,e5,e6,aV,put⟩:=S1.two hm h1 hd;cases e1;rw [e2] at jD;cases jD;exact ⟨T,ys,p, .ref l,rfl,rfl,bE.of e3,r8 e4 hj e5,ty_list e6,l,xs,rfl,rfl,e6,M.nx _ h _ _ ⟨G1,fp,put [] [] .nil⟩⟩
def Ig:dM:=dI wU λi j=>i*2^j.toNat
theorem Cs:OpR X (binaryOp .LShift) (bh Z Ig):=oO CC
end
end L2
namespace yX
open PySem L2 Wb
variable {P:Program} {w:World} {mg:Str→Option Value} {base:Heap} {Z:DC} (T:Txt Z mg)
open Wy
theorem gE(a b:Int)(h:0<b):0≤a%b∧a%b<b:=⟨Int.emod_nonneg _ (by omega),Int.emod_lt_of_pos _ h⟩
theorem BP{i j:Int}{P:D→Prop}{ρ:DN}(h:P (.bl (decide (i=j)))):dC (.int j) ρ (λb=>mF (.int i) b P):=zf h
theorem rR(w:W)(i:Nat)(r:List Nat):(w.map ao).set i (ao r)=(w.set i r).map ao:=by rw [qE]
theorem kC{α:Type}(l:List α)(k:Nat)(h:k≤l.length):cutD l (some (k:Int)) none=l.drop k:=by
 unfold cutD
 have e1:HT.br l.length 0 (some (k:Int))=k:=by
  simp only [HT.br]
  split<;>omega
 have e2:HT.br l.length l.length none=l.length:=rfl;rw [e1,e2];exact List.take_of_length_le (by simp)
theorem fD{w:W}{p:Nat}(h:p<w.length):cX (w.map ao) (p:Int)=some (ao (row w p)):=dR (mj h)
theorem fC{ns:List Nat}{p:Nat}(h:p<ns.length):cX (ns.map ag) (p:Int)=some (ag (ns.getD p 0)):=dR (by rw [cU,cP,eN h];rfl)
theorem b9{g:dB}{tb:bP}{E:cv}{n:Nat}{ρ:DN}(I:Nat→DN→Prop)(h0:I 0 ρ)(hs:∀(j:Nat)(ρ:DN),j<n→I j ρ→∀A:DN→Prop,(∀ρ,I (j+1) ρ→A ρ)→g (ag j) ρ λbB=>tb {nx:=A,ct:=A,bk:=E.nx,rt:=E.rt} bB)
  (he:∀ρ,I n ρ→E.nx ρ):jB g tb E (dh 0 n) ρ:=ub I h0 (λj ρ hj h A hA=>by
 have:=hs j ρ hj h A hA
 unfold ag at this;rw [Int.zero_add];exact this) he
def vd(n:Nat)(ns:List Nat):Prop:=ns.length=n∧ns.Nodup∧∀x∈ns,x<n
theorem dO{n:Nat}{ns:List Nat}(N:vd n ns){x:Nat}(h:x<n):x∈ns:=by
 apply Classical.byContradiction;intro hx
 have:(x::ns).length≤(List.range n).length:=aR (jj.mpr ⟨hx,N.2.1⟩) λy hy=>by
  rcases cV.mp hy with rfl|hy
  ·exact cN.mpr h
  ·exact cN.mpr (N.2.2 y hy)
 rw [kA,dY,N.1] at this;omega
theorem sN{x:Nat}:∀(ns:List Nat)(m:Nat),m<ns.idxOf x→ns[m]? ≠some x
 | [],m,h=>by simp at h
 |a::ns,m,h=>by
  rw [List.idxOf_cons] at h
  by_cases e:(a==x)=true
  ·rw [e] at h;simp at h
  ·rw [mx.mpr e] at h
   cases m with
   |zero=>intro z;simp at z;exact e (by simp [z])
   |succ m=>rw [qx];exact sN ns m (by simpa using h)
theorem vR{ns:List Nat}{x:Nat}{P:D→Prop}(h:x∈ns)(q:P (ag (ns.idxOf x))):bY (ag x)=true∧(ns.map ag).all bY=true∧∃(j:Nat)(z:D),(ns.map ag)[j]? =some z∧fS z (ag x)=true∧(∀(m:Nat) z,m<j→(ns.map ag)[m]? =some z→fS z (ag x)=false)∧P (.int (j:Nat)):=by
 have hl:=rS.mpr h;have e:ns[ns.idxOf x]? =some x:=by rw [eN hl];exact congrArg some (u4 hl)
 refine ⟨rfl,cF _,ns.idxOf x,ag x,by rw [cU,e];rfl,by simp [fS,ag],λm z hm hz=>?_,q⟩
 obtain ⟨y,hy,rfl⟩:=cj hz
 have:y≠x:=by
  rintro rfl;exact sN _ _ hm hy
 have:¬((y:Int)=(x:Int)):=by omega
 simpa [fS,ag] using this
theorem iZ{ns:List Nat}{x:Nat}(h:x∈ns):(ns.map ag)[ns.idxOf x]? =some (ag x)∧fS (ag x) (ag x)=true∧∀(m:Nat) z,m<ns.idxOf x→(ns.map ag)[m]? =some z→fS z (ag x)=false:=by
 have:=vR (P:=λd=>d=ag (ns.idxOf x)) h rfl
 obtain ⟨_,_,j,z,h1,h2,h3,h4⟩:=this;have hl:=rS.mpr h;have e:ns[ns.idxOf x]? =some x:=by rw [eN hl];exact congrArg some (u4 hl)
 refine ⟨by rw [cU,e];rfl,by simp [fS,ag],λm z hm hz=>?_⟩
 obtain ⟨y,hy,rfl⟩:=cj hz
 have:y≠x:=by
  rintro rfl;exact sN _ _ hm hy
 have:¬((y:Int)=(x:Int)):=by omega
 simpa [fS,ag] using this
theorem qs(n:Nat):dh 0 n=(List.range n).map λ(x:Nat)=>ag x:=by unfold dh ag;simp
theorem i7{α:Type}{f:α→D}{g:α→PyData}(h:∀a,(f a).py=some (g a)):∀l:List α,fL (l.map f)=some (l.map g)
 | []=>rfl
 |a::l=>by
  have:=i7 h l
  rw [jT,fL,h a,this];rfl
theorem j8(r:List Nat):(ao r).py=some (gI r):=by
 unfold ao gI;rw [D.py,i7 (g:=nD) (λn=>rfl)];rfl
theorem xu(w:W):(aC w).py=some (mi w):=by
 unfold aC mi;rw [D.py,i7 (g:=gI) j8];rfl
theorem zg{v w:W}{P:D→Prop}(h:P (.bl (decide (v=w)))):mF (aC v) (aC w) P:=by
 refine ⟨_,_,xu v,xu w,by have:=t4 v;omega,?_⟩
 have:PyData.eqv (mi v) (mi w)=decide (v=w):=by
  by_cases e:v=w
  ·rw [decide_eq_true e];exact (q0 v w).mpr e
  ·rw [decide_eq_false e]
   apply mx.mpr;exact λz=>e ((q0 v w).mp z)
 rw [if_neg dP,this];exact h
theorem t7(a b:List Nat):PyData.eqv (gI a) (gI b)=decide (a=b):=by
 by_cases e:a=b
 ·rw [decide_eq_true e];exact (j0 a b).mpr e
 ·rw [decide_eq_false e]
  apply mx.mpr;exact λz=>e ((j0 a b).mp z)
theorem tW{v w:List Nat}{P:D→Prop}(h:P (.bl (decide (v=w)))):mF (ao v) (ao w) P:=by
 refine ⟨_,_,j8 v,j8 w,by have:=gZ v;omega,?_⟩
 rw [if_neg dP,t7];exact h
theorem pC{v w:List Nat}{P:D→Prop}(h:P (.bl (!decide (v=w)))):pB (ao v) (ao w) P:=by
 refine ⟨_,_,j8 v,j8 w,by have:=gZ v;omega,?_⟩
 rw [if_pos rfl,t7];exact h
variable {P:Program} {w:World} {mg:Str→Option Value} {base:Heap} {Z:DC} (T:Txt Z mg)
def yL:cp:=λds P=>∃(ns:List Int)(k:Nat),ds= [.e9 ns,ag k]∧∀v:Int,P (.int v)
theorem bq:FnOk P w Z.K mg base bQ 1 T.d__law_cell_at.f T.d__law_cell_at.fd ["_law_script","_law_k"] (aU Z yL):=by
 have nd:=iL.nd;refine bc T.d__law_cell_at.F iL [0,0] (by decide) (λds R h=>by obtain ⟨_,_,rfl,_⟩:=h;rfl) (λbg A outer s H E ds R hr h=>?_)
 have hu:=hr.units
 refine ⟨_,(ae (aX (aD wc (aa 1) (aH ba rfl T.B.len aZ (ab (aa 0) af)) (aN _)) (ah (aL (aB (aa 0) (aa 1)))) aF)
   (ah (aL aq))),?_⟩
 obtain ⟨ns,k,rfl,q⟩:=h;refine ⟨_,rfl,_,rfl,?_⟩;refine ⟨_,rfl,bw (λe=>?_) (λe=>?_)⟩
 ·have hk:k<ns.length:=by
   have:=of_decide_eq_true e
   omega
  exact ⟨_,rfl,_,rfl,_,tN (eN hk),q _⟩
 ·exact q 0
def wD:cp:=λds P=>∃(c k:Int),ds= [.int c, .int k]∧(0≤k∧k<1000)∧∀v:Int,P (.int v)
theorem mod_lt(x:Int):0≤x%2147483629∧x%2147483629<2147483629:=⟨Int.emod_nonneg _ (by decide),Int.emod_lt_of_pos _ (by decide)⟩
theorem mY:FnOk P w Z.K mg base bQ 1 T.d__law_reserve.f T.d__law_reserve.fd ["_law_cell","_law_k"] (aU Z wD):=by
 have nd:=iM.nd;refine bc T.d__law_reserve.F iM [0,0,0] (by decide) (λds R h=>by obtain ⟨_,_,rfl,_⟩:=h;rfl) (λbg A outer s H E ds R hr h=>?_)
 have hu:=hr.units
 refine ⟨_,(ae (aG false 2 nd (aw bz (aw bx (aw bz (aa 0) aq) (aw f7 aq (aw bx (aa 1) aq))) aq))
   (ah (aL (aw bx aq (aw bz (aw bx (aw bx (aw f7 (aa 2) (aa 2)) (aw f7 aq (aa 2))) (aw f7 aq (aa 1))) aq))))),?_⟩
 obtain ⟨c,k,rfl,hk,q⟩:=h;refine ⟨_,rfl,(by show (0:Int)<2147483629;decide),_,rfl, .inl ⟨by decide,by decide⟩,(by show (0:Int)<2147483629;decide),trivial,?_⟩
 have:=mod_lt (c%2147483629+48271*(k+1))
 refine ⟨_,rfl,_,rfl, .inl ⟨by dsimp only;omega,by dsimp only;omega⟩,_,rfl, .inl ⟨by decide,by decide⟩,_,rfl, .inl ⟨by decide,by decide⟩,(by show (0:Int)<2147483629;decide),q _⟩
theorem tX{t u:bP}{E:cv}{ρ:DN}(h:t {E with nx:=u E} ρ):qX t u E ρ:=h
theorem Ac{c:b6}{md:List Nat}{m:Bool}{i:Nat}{te:aQ}{E:cv}{ρ:DN}{x0:Int}(Ok:Int→Prop)(h0:ρ[i]? =some (some (.int x0)))(Ga:Ok x0)(hc:∀Q:Bool→Prop,(∀b,Q b)→c ρ Q)(ht:∀Q:D→Prop,(∀x:Int,Ok x→Q (.int x))→te (oG md m ρ) Q)
  (hk:∀x:Int,Ok x→E.nx (ρ.set i (some (.int x)))):pA c (tY md m i te) kD E ρ:=by
 refine hc _ λb=>bw (λ_=>ht _ λx hx=>⟨?_,hk x hx⟩) (λ_=>?_)
 ·cases m
  ·trivial
  ·rfl
 ·have:=hk x0 Ga
  obtain ⟨hi,e⟩:=eo.mp h0;rw [←e,List.set_getElem_self] at this;exact this
def bo(l:List Int):List D:=l.map D.int
theorem pT(l:List Int):(bo l).length=l.length:=aW _
theorem nI(l:List Int)(x:Int):bo (l++ [x])=bo l++ [.int x]:=cM ..
theorem cR{l:List Int}{p:Nat}(h:p<l.length):cX (bo l) (p:Int)=some (.int (l.getD p 0)):=dR (by unfold bo;rw [cU,cP,eN h];rfl)
def Bb:cp:=λds P=>∃(ns:List Int)(k n:Nat),ds= [.e9 ns,ag k,ag n]∧k≤10∧n≤14∧∀xs:List Int,xs.length=n→P (.lst (bo xs))
theorem gF:FnOk P w Z.K mg base bQ 2 T.d__law_draws.f T.d__law_draws.fd ["_law_script","_law_at","_law_many"] (aU Z Bb):=by
 have nd:=jM.nd;refine bc T.d__law_draws.F jM [0,0,0,0,1,0,0,0] (by decide) (λds R h=>by obtain ⟨_,_,_,rfl,_⟩:=h;rfl) (λbg A outer s H E ds R hr h=>?_)
 have hu:=hr.units
 refine ⟨_,(ae (aG false 3 nd (ay T.d__law_cell_at (bq T) hr (ab (aa 0) (ab (aa 1) af))))
   (ae (cZ 4 nd (fY af))
   (ae (aX (aD (eZ hu) (aw bz (ay T.d__law_cell_at (bq T) hr (ab (aa 0) (ab aq af))) aq) aq (aN _)) (ae (aG false 5 nd (aa 3))
   (ae (cz rfl PassesOwn.never (bJ rfl T.B.range (ab (aa 2) af)) (aM 6 nd) (ae (aX (aD wc (aa 3) aq (aN _)) (ah (aG false 3 nd (ay T.d__law_reserve (mY T) hr (ab (aa 5) (ab (aw bx (aw f7 aq (aa 1)) (aa 6)) af))))) aF)
   (ae (g7 false 4 (aw bz (aa 3) (aw sP aq aq)))
   (ah (aG false 3 nd (aw fi (aa 3) (aw sP aq aq)))))))
   (ah (aL (aa 4))))) aF)
   (ae (aG false 7 nd (aw bz (aa 3) aq))
   (ae (cz rfl PassesOwn.never (bJ rfl T.B.range (ab (aa 2) af)) (aM 6 nd) (ae (aG false 7 nd (aw bz (aw bx (aw bx (aw bx (aw f7 (aa 7) (aa 7)) (aw f7 aq (aa 7))) (aw f7 aq (aa 6))) aq) aq))
   (ah (g7 false 4 (aw fi (aa 7) aq)))))
   (ah (aL (aa 4)))))))),?_⟩
 obtain ⟨ns,k,n,rfl,hk,hn,q⟩:=h;refine ⟨_,rfl,_,rfl,ns,k,rfl,λc=>⟨trivial,?_⟩⟩;refine ⟨by show 0≤sizeLine;decide,?_⟩
 refine ⟨_,rfl,ns,0,rfl,λc0=>⟨(by show (0:Int)<2;decide),BP ⟨_,rfl,bw (λ_=>?_) (λ_=>?_)⟩⟩⟩
 ·refine ⟨_,rfl,trivial,?_⟩
  refine ⟨_,rfl,⟨by show-(2^62)≤(n:Int);omega,by show (n:Int)<2^62;omega⟩,?_⟩
  rw [show ((n:Int)).toNat=n by omega]
  refine b9 (λj ρ=>∃(y:Int)(xs:List Int)(o6:Option D),ρ= [some (.e9 ns),some (ag k),some (ag n),some (.int y),some (.lst (bo xs)),some (.int c),o6,none]∧xs.length=j) ⟨c,[],_,rfl,rfl⟩ ?_ ?_
  ·rintro j _ hj ⟨y,xs,o6,rfl,hl⟩ A hA
   refine tX ?_;refine Ac (λ_=>True) rfl trivial (λQ hQ=>⟨_,rfl,_,rfl,hQ _⟩) (λQ hQ=>?_) λy1 _=>?_
   ·exact ⟨_,rfl,_,rfl, .inl ⟨by decide,by decide⟩,_,rfl,_,_,rfl,⟨by omega,by omega⟩,λv=>hQ _ trivial⟩
   refine ⟨_,rfl,_,rfl,⟨by decide,by decide⟩,(by show (0:Int)<10^9;decide),trivial,b4 (by rw [pT];omega),?_⟩
   refine ⟨_,rfl,⟨by decide,by decide⟩,⟨by decide,by decide⟩,trivial,?_⟩
   exact hA _ ⟨_,xs++ [_],some (ag j),by rw [nI];rfl,by rw [cK,hl];rfl⟩
  ·rintro _ ⟨y,xs,o6,rfl,hl⟩
   exact ⟨_,rfl,q xs hl⟩
 ·refine ⟨_,rfl,(by show (0:Int)<2147483629;decide),trivial,?_⟩
  refine ⟨_,rfl,⟨by show-(2^62)≤(n:Int);omega,by show (n:Int)<2^62;omega⟩,?_⟩
  rw [show ((n:Int)).toNat=n by omega]
  refine b9 (λj ρ=>∃(y:Int)(xs:List Int)(o6:Option D),ρ= [some (.e9 ns),some (ag k),some (ag n),some (.int c),some (.lst (bo xs)),none,o6,some (.int y)]∧xs.length=j∧0≤y∧y<2147483629) ⟨_,[],_,rfl,rfl,mod_lt c⟩ ?_ ?_
  ·rintro j _ hj ⟨y,xs,o6,rfl,hl,hy⟩ A hA
   refine ⟨_,rfl,_,rfl, .inl ⟨by omega,by omega⟩,_,rfl, .inl ⟨by decide,by decide⟩,_,rfl, .inl ⟨by decide,by decide⟩,(by show (0:Int)<2147483629;decide),trivial,?_⟩
   refine ⟨_,rfl,_,rfl,⟨by decide,by decide⟩,trivial,b4 (by rw [pT];omega),?_⟩
   exact hA _ ⟨_,xs++ [_],some (ag j),by rw [nI];rfl,by rw [cK,hl];rfl,mod_lt _⟩
  ·rintro _ ⟨y,xs,o6,rfl,hl,hy⟩
   exact ⟨_,rfl,q xs hl⟩
variable {P:Program} {w:World} {mg:Str→Option Value} {base:Heap} {Z:DC} (T:Txt Z mg)
structure jW (w:W) (r:List Nat):Prop where
 ne:0<r.length
 sz:r.length≤196
 lt:∀k,k<r.length→r.getD k 0<w.length
 tie:2≤w.length→∀k,k<r.length→r.getD ((k+(r.length-1))%r.length) 0∈row w (r.getD k 0)
def zz(d:Nat×Nat):Int×Int:=(d.1,d.2)
theorem Dl{a b:Nat×Nat}(h:zz a=zz b):a=b:=Prod.ext (by have:=(Prod.mk.inj h).1;omega) (by have:=(Prod.mk.inj h).2;omega)
theorem xM{d:Nat×Nat}{l:List (Nat×Nat)}:zz d∈l.map zz↔d∈l:=by
 rw [eO];exact ⟨λ⟨a,ha,e⟩=>by rw [←Dl e];exact ha,λh=>⟨d,h,rfl⟩⟩
structure Cl (w:W) (ds:List (Nat×Nat)):Prop where
 nd:ds.Nodup
 dart:∀e∈ds,dj w e
 step:∀e,dj w e→(e∈ds↔wa w e∈ds)
theorem Cl.bf{w:W}{ds:List (Nat×Nat)}(c:Cl w ds)(g:Good w){d:Nat×Nat}(hd:dj w d):∀k,Wb.bf w k d∈ds↔d∈ds
 |0=>Iff.rfl
 |k+1=>(c.step _ (bT g hd k)).symm.trans (c.bf g hd k)
theorem dg{w:W}{d e:Nat×Nat}{k:Nat}:e∈walk w d k↔∃i,i<k∧bf w i d=e:=by
 unfold walk;rw [eO];exact ⟨λ⟨i,hi,e⟩=>⟨i,cN.mp hi,e⟩,λ⟨i,hi,e⟩=>⟨i,cN.mpr hi,e⟩⟩
theorem Cl.len{w:W}{ds:List (Nat×Nat)}(c:Cl w ds)(g:Good w)(cf:w.length≤14):ds.length≤196:=by
 have c1:=kE g;have c2:w.length*w.length≤14*14:=Nat.mul_le_mul cf cf
 have:=aR c.nd λe he=>kO.mpr (c.dart e he)
 omega
theorem Cl.nodup{w:W}{ds:List (Nat×Nat)}(c:Cl w ds)(g:Good w){d:Nat×Nat}(hd:dj w d){k:Nat}(nd:0<k→d∉ds)(hk:∀j,0<j→j<k→Wb.bf w j d≠d):(ds++walk w d k).Nodup:=by
 rw [jS];refine ⟨c.nd,nY g hd hk,λa ha b hb z=>?_⟩;obtain ⟨i,hi,rfl⟩:=dg.mp hb;rw [z] at ha;exact nd (by omega) ((c.bf g hd i).mp ha)
theorem Cl.back{w:W}{ds:List (Nat×Nat)}(c:Cl w ds)(g:Good w){d:Nat×Nat}(hd:dj w d){k:Nat}(k0:0<k)(nd:d∉ds)(hk:∀j,0<j→j<k→Wb.bf w j d≠d)(h:Wb.bf w k d∈ds++walk w d k):Wb.bf w k d=d:=by
 rcases cu.mp h with h|h
 ·exact absurd ((c.bf g hd k).mp h) nd
 ·obtain ⟨i,hi,e⟩:=dg.mp h
  have e2:Wb.bf w i d=Wb.bf w i (Wb.bf w (k-i) d):=by rw [←pV (k-i) i,show i+(k-i)=k by omega];exact e
  have e3:=(pW g hd (bT g hd _) i e2).symm
  by_cases z:i=0
  ·subst z;exact e3
  ·exact absurd e3 (hk (k-i) (by omega) (by omega))
theorem Cl.grow{w:W}{ds:List (Nat×Nat)}(c:Cl w ds)(g:Good w){d:Nat×Nat}(hd:dj w d){k:Nat}(k0:0<k)(nd:d∉ds)(hk:∀j,0<j→j<k→Wb.bf w j d≠d)(e:Wb.bf w k d=d):Cl w (ds++walk w d k):=by
 refine ⟨c.nodup g hd (λ_=>nd) hk,λx hx=>?_,λx hx=>?_⟩
 ·rcases cu.mp hx with h|h
  ·exact c.dart x h
  ·exact kZ g hd x h
 ·rw [cu,cu,←c.step x hx]
  refine or_congr Iff.rfl ⟨λh=>?_,λh=>?_⟩
  ·obtain ⟨i,hi,rfl⟩:=dg.mp h
   by_cases z:i+1=k
   ·exact dg.mpr ⟨0,k0,by show d=Wb.bf w (i+1) d;rw [z,e]⟩
   ·exact dg.mpr ⟨i+1,by omega,rfl⟩
  ·obtain ⟨i,hi,z⟩:=dg.mp h
   cases i with
   |zero=>
    obtain ⟨m,rfl⟩:∃m,k=m+1:=⟨k-1,by omega⟩
    refine dg.mpr ⟨m,by omega,qb g (bT g hd m) hx ?_⟩
    exact e.trans z
   |succ i=>exact dg.mpr ⟨i,by omega,qb g (bT g hd i) hx z⟩
theorem nv{w:W}{d:Nat×Nat}{k i:Nat}(h:i<k):((walk w d k).map (·.1)).getD i 0=(bf w i d).1:=by
 unfold walk;rw [oj,cP,cU,rV h];rfl
theorem Ai{w:W}(g:Good w)(cf:w.length≤14){d:Nat×Nat}(hd:dj w d){k:Nat}(k0:0<k)(hk:∀j,0<j→j<k→Wb.bf w j d≠d)(e:Wb.bf w k d=d):jW w ((walk w d k).map (·.1)):=by
 have c1:=kE g;have c2:w.length*w.length≤14*14:=Nat.mul_le_mul cf cf;have c3:=uU g hd hk;have l:((walk w d k).map (·.1)).length=k:=by rw [aW,gq]
 have st:∀i,(bf w i d).1∈row w (bf w (i+1) d).1:=λi=>g.sym _ _ (bT g hd i);refine ⟨by omega,by omega,λi hi=>?_,λ_ i hi=>?_⟩
 ·rw [l] at hi
  rw [nv hi];exact bN (bT g hd i)
 ·rw [l] at hi ⊢
  rw [nv hi,nv (om _ k0)];cases i with
  |zero=>
   obtain ⟨m,rfl⟩:∃m,k=m+1:=⟨k-1,by omega⟩
   have:=st m
   rw [e] at this;rw [mB,oe (by omega)];exact this
  |succ i=>
   rw [show i+1+(k-1)=i+k by omega,Nat.add_mod_right,oe (by omega)];exact st i
theorem Av{w:W}(g:Good w)(h:w.length=1):w= [[]]:=by
 match w,h with
 | [r],_=>
  cases r with
  |nil=>rfl
  |cons a r=>
   have m:a∈row [a::r] 0:=fQ
   have:=g.rng 0 a m
   have e:a=0:=by simpa using this
   subst e;exact absurd m (g.irr 0)
theorem vx{w:W}(g:Good w)(h:2≤w.length):0<(row w 0).length:=by
 apply Nat.pos_of_ne_zero;intro z;have z:row w 0= []:=List.length_eq_zero_iff.mp z
 have:=nA g (S:=λp=>p=0) rfl (λp q hp hq=>by subst hp;rw [z] at hq;cases hq) 1 (by omega)
 omega
def uQ:cp:=λds P=>∃(w:W),ds= [aC w]∧Good w∧1≤w.length∧w.length≤14∧∀rs:List (List Nat),0<rs.length→rs.length≤196→(∀r∈rs,jW w r)→P (.lst (rs.map ao))
theorem qg:FnOk P w Z.K mg base bQ 1 T.d__law_lands.f T.d__law_lands.fd ["_law_turns"] (aU Z uQ):=by
 have nd:=jO.nd;refine bc T.d__law_lands.F jO [0,98,1,0,0,1,0,0] (by decide) (λds R h=>by obtain ⟨_,rfl,_⟩:=h;rfl) (λbg A outer s H E ds R hr h=>?_)
 have hu:=hr.units
 refine ⟨_,(ae (aX (aD (eZ hu) (aa 0) (bF (ab (bF af) af)) (aN _)) (ah (aL (bF (ab (bF (ab aq af)) af)))) aF)
   (ae (zC 1 nd)
   (ae (cZ 2 nd (fY af))
   (ae (cz rfl PassesOwn.never (bJ rfl T.B.range (ab (aH ba rfl T.B.len aZ (ab (aa 0) af)) af)) (aM 3 nd) (ah (cL rfl PassesOwn.never (bu (aB (aa 0) (aa 3))) (aM 4 nd) (ae (cZ 5 nd (fY af))
   (ae (aG false 6 nd (fb (ab (aa 3) (ab (aa 4) af))))
   (ae (mK PassesOwn.never (aD (wd hu) (aa 6) (aa 1) (by with_unfolding_all rfl)) (ae (zG 1 hu (aa 6) eB)
   (ae (g7 false 5 (aB (aa 6) aq))
   (ae (aG false 7 nd (aB (aa 0) (aB (aa 6) aq)))
   (ah (aG false 6 nd (fb (ab (aB (aa 6) aq) (ab (aB (aa 7) (aw bz (aw bx (mH (aa 7) (aB (aa 6) aq)) aq) (aH ba rfl T.B.len aZ (ab (aa 7) af)))) af)))))))))
   (ah (aX (aD (ig hu) (aa 5) (bF af) (aN _)) (ah (zB 2 5)) aF))))))))
   (ah (aL (aa 2))))))),?_⟩
 obtain ⟨w',rfl,g,h1,cf,q⟩:=h;have lw:(w'.map ao).length=w'.length:=aW _;refine ⟨_,rfl,by show 0≤sizeLine;decide,by show 1≤sizeLine;decide,?_⟩
 refine (?_:mF (aC w') (aC [[]]) _);refine zg ⟨_,rfl,bw (λe=>?_) (λe=>?_)⟩
 ·obtain rfl:w'= [[]]:=of_decide_eq_true e
  refine ⟨by show 1≤sizeLine;decide,by show 1≤sizeLine;decide,?_⟩
  refine q [[0]] (by decide) (by decide) λr hr=>?_
  rw [cE] at hr;subst hr;refine ⟨by decide,by decide,λk hk=>?_,λh=>absurd h (by decide)⟩
  have:k=0:=by simpa using hk
  subst this;decide
 have n2:2≤w'.length:=Classical.byContradiction λz=>of_decide_eq_false e (Av g (by omega))
 have r0:=vx g n2;refine ⟨by show 0≤sizeLine;decide,?_⟩
 refine ⟨_,rfl,⟨by omega,by show ((w'.map ao).length:Int)<2^62;omega⟩,?_⟩
 rw [show (((w'.map ao).length:Int)).toNat=w'.length by omega]
 refine b9 (λj ρ=>∃(ds:List (Nat×Nat))(vs:List FV)(rs:List (List Nat))(o3 o4 o5 o6 o7:Option D),ρ= [some (aC w'),some (.x (.lW (ds.map zz) vs)),some (.lst (rs.map ao)),o3,o4,o5,o6,o7]∧Cl w' ds∧(0<j→0<ds.length)∧(0<ds.length→0<rs.length)∧rs.length≤ds.length∧∀r∈rs,jW w' r)
  ⟨[],[],[],_,_,_,_,_,rfl,⟨fW,(λe h=>nomatch h),λe _=>⟨(λh=>nomatch h),λh=>nomatch h⟩⟩,(λh=>by omega),id,bC _,λr h=>nomatch h⟩ ?_ ?_
 ·rintro p _ hp ⟨ds,vs,rs,o3,o4,o5,o6,o7,rfl,C,rp,rq,rl,ok⟩ A hA
  refine ⟨_,rfl,_,rfl,_,fD hp,?_⟩
  refine bK (λm ρ=>∃(ds:List (Nat×Nat))(vs:List FV)(rs:List (List Nat))(o4 o5 o6 o7:Option D),ρ= [some (aC w'),some (.x (.lW (ds.map zz) vs)),some (.lst (rs.map ao)),some (ag p),o4,o5,o6,o7]∧Cl w' ds∧(0<p∨0<m→0<ds.length)∧(0<ds.length→0<rs.length)∧rs.length≤ds.length∧∀r∈rs,jW w' r)
   ⟨ds,vs,rs,_,_,_,_,rfl,C,(λh=>h.elim rp λh=>by omega),rq,rl,ok⟩ ?_ ?_
  ·clear rp rq rl ok C
   rintro m _ _ hd ⟨ds,vs,rs,o4,o5,o6,o7,rfl,C,rp,rq,rl,ok⟩ A hA;obtain ⟨q',hq,rfl⟩:=cj hd;have de:dj w' (p,q'):=eJ hq;have c1:=kE g;have c2:w'.length*w'.length≤14*14:=Nat.mul_le_mul cf cf;have cl:=C.len g cf;refine ⟨by show 0≤sizeLine;decide,?_⟩
   refine ⟨_,rfl,_,rfl,by show 2≤sizeLine;decide,trivial,?_⟩
   refine lb (λm ρ=>∃(k:Nat)(vs:List FV)(o7:Option D),ρ= [some (aC w'),some (.x (.lW ((ds++walk w' (p,q') k).map zz) vs)),some (.lst (rs.map ao)),some (ag p),some (ag q'),some (ao ((walk w' (p,q') k).map (·.1))),some (pairD (bf w' k (p,q'))),o7]∧m+k=200∧(0<k→(p,q')∉ds)∧(∀j,0<j→j<k→bf w' j (p,q')≠(p,q'))) 200 ⟨0,vs,_,by rw [show walk w' (p,q') 0= [] from rfl,mz];rfl,rfl,(λh=>by omega),λj h1 h2=>by omega⟩ ?_
   rintro m _ ⟨k,vs,o7,rfl,mk,nd,hk⟩;have kl:=uU g de hk;have nn:=C.nodup g de nd hk
   have nl:(ds++walk w' (p,q') k).length≤196:=by
    have:=aR nn λe he=>kO.mpr ((cu.mp he).elim (C.dart e) (kZ g de e))
    omega
   have dk:=bT g de k;have hs:=g.sym _ _ dk;refine ⟨_,rfl,_,rfl,zz (bf w' k (p,q')),_,_,rfl,rfl,_,rfl,?_⟩;refine (?_:if (if true=true then !decide (zz (bf w' k (p,q'))∈(ds++walk w' (p,q') k).map zz) else _)=true then _ else _);rw [if_pos rfl,show decide (zz (bf w' k (p,q'))∈(ds++walk w' (p,q') k).map zz)=decide (bf w' k (p,q')∈ds++walk w' (p,q') k) from decide_eq_decide.mpr xM];refine bw (λc=>?_) (λc=>?_)
   ·have c:bf w' k (p,q')∉ds++walk w' (p,q') k:=by simpa using c
    have eC:=bN hs;have SY:=fE g (bf w' k (p,q')).2;have lr:((row w' (bf w' k (p,q')).2).map ag).length=(row w' (bf w' k (p,q')).2).length:=aW _;have pos:0<(row w' (bf w' k (p,q')).2).length:=rU hs;have e0:(0:Int)<(((row w' (bf w' k (p,q')).2).map ag).length:Int):=by rw [lr];omega
    refine ⟨.bl true,_,_,rfl,rfl,_,rfl,zz _,rfl,(λz=>c (xM.mp z)),by rw [aW];omega,?_⟩
    refine ⟨_,rfl,_,rfl,_,rfl,trivial,b4 (by rw [aW,aW,gq];omega),?_⟩
    refine ⟨_,rfl,_,rfl,_,rfl,_,fD eC,trivial,?_⟩;have fx:=iZ hs;refine ⟨_,rfl,_,rfl,_,rfl,_,rfl,_,rfl,_,rfl,_,rfl,rfl,cF _,_,_,fx.1,fx.2.1,fx.2.2,?_⟩;refine ⟨_,rfl,e0,?_⟩;have em:(((row w' (bf w' k (p,q')).2).idxOf (bf w' k (p,q')).1:Nat):Int)+1=(((row w' (bf w' k (p,q')).2).idxOf (bf w' k (p,q')).1+1:Nat):Int):=by omega
    have et:((((row w' (bf w' k (p,q')).2).idxOf (bf w' k (p,q')).1:Nat):Int)+1)%(((row w' (bf w' k (p,q')).2).map ag).length:Int)=((((row w' (bf w' k (p,q')).2).idxOf (bf w' k (p,q')).1+1)%(row w' (bf w' k (p,q')).2).length:Nat):Int):=by rw [lr,em,Int.natCast_emod]
    refine ⟨ag (i9 (row w' (bf w' k (p,q')).2) (bf w' k (p,q')).1),?_,by show 2≤sizeLine;decide,trivial,m-1,by omega,k+1,vs++ [.bl true],some (ao (row w' (bf w' k (p,q')).2)),?_,by omega,λ_=>?_,λj h1 h2=>?_⟩
    ·show cX ((row w' (bf w' k (p,q')).2).map ag) ((λi j=>i%j) _ _)=_
     dsimp only;rw [et];exact fC (om _ pos)
    ·have e1:(ds++walk w' (p,q') (k+1)).map zz=(ds++walk w' (p,q') k).map zz++ [zz (bf w' k (p,q'))]:=by rw [qw,←mw,cM];rfl
     have e2:ao ((walk w' (p,q') (k+1)).map (·.1))= .lst (((walk w' (p,q') k).map (·.1)).map ag++ [ag (bf w' k (p,q')).1]):=by unfold ao;rw [qw,cM,cM];rfl
     rw [e1,e2];rfl
    ·by_cases z:0<k
     ·exact nd z
     ·obtain rfl:k=0:=by omega
      exact λh=>c (fV _ h)
    ·by_cases z:j=k
     ·subst z
      exact λh=>c (dX _ (dg.mpr ⟨0,h1,h.symm⟩))
     ·exact hk j h1 (by omega)
   ·have c:bf w' k (p,q')∈ds++walk w' (p,q') k:=of_decide_eq_true (by simpa only [Bool.not_eq_false'] using c)
    refine ⟨_,rfl,by show 0≤sizeLine;decide,?_⟩
    refine (?_:pB (ao _) (ao []) _);refine pC ⟨_,rfl,bw (λe=>?_) (λe=>?_)⟩
    ·have k0:0<k:=Nat.pos_of_ne_zero λz=>by subst z;exact absurd e (by simp [walk])
     have bk:=C.back g de k0 (nd k0) hk c;have C2:=C.grow g de k0 (nd k0) hk bk;have L:=Ai g cf de k0 hk bk;refine ⟨_,_,rfl,rfl,b4 (by rw [aW];omega),?_⟩
     refine hA _ ⟨ds++walk w' (p,q') k,vs,rs++ [(walk w' (p,q') k).map (·.1)],some (ag q'),none,some (pairD (bf w' k (p,q'))),o7,?_,C2,λ_=>?_,λ_=>?_,?_,λr hr=>?_⟩
     ·rw [cM (f:=ao)];rfl
     ·rw [cK,gq];omega
     ·rw [cK];exact Nat.succ_pos _
     ·rw [cK,cK,gq];simp only [mv];omega
     ·rcases cu.mp hr with h|h
      ·exact ok r h
      ·rw [cE] at h;rw [h];exact L
    ·have k0:k=0:=by
      have e:(walk w' (p,q') k).map (·.1)= []:=of_decide_eq_true (by simpa only [Bool.not_eq_false'] using e)
      have:=congrArg List.length e
      rwa [aW,gq] at this
     subst k0;have e0:ds++walk w' (p,q') 0=ds:=mz _;rw [e0] at c;refine hA _ ⟨ds,vs,rs,_,_,_,_,by rw [e0],C,λ_=>rU c,rq,rl,ok⟩
  ·rintro _ ⟨ds,vs,rs,o4,o5,o6,o7,rfl,C,rp,rq,rl,ok⟩
   refine hA _ ⟨ds,vs,rs,_,_,_,_,_,rfl,C,λ_=>rp ?_,rq,rl,ok⟩
   by_cases z:p=0
   ·subst z;right;rw [aW];exact r0
   ·left;omega
 ·rintro _ ⟨ds,vs,rs,o3,o4,o5,o6,o7,rfl,C,rp,rq,rl,ok⟩
  have:=C.len g cf
  exact ⟨_,rfl,q rs (rq (rp (by omega))) (by omega) ok⟩
variable {P:Program} {w:World} {mg:Str→Option Value} {base:Heap} {Z:DC} (T:Txt Z mg)
structure Dr (r ks:List Nat):Prop where
 ne:0<ks.length
 lt:∀k∈ks,k<r.length
 nd:(ks.map λk=>r.getD k 0).Nodup
def yN:cp:=λds P=>∃(r:List Nat)(n:Int),ds= [ao r, .int n]∧0<r.length∧r.length≤196∧∀ks,Dr r ks→P (ao ks)
theorem oz:FnOk P w Z.K mg base bQ 1 T.d__law_places.f T.d__law_places.fd ["_law_land","_law_number"] (aU Z yN):=by
 have nd:=jc.nd;refine bc T.d__law_places.F jc [0,0,0,1,0] (by decide) (λds R h=>by obtain ⟨_,_,rfl,_⟩:=h;rfl) (λbg A outer s H E ds R hr h=>?_)
 have hu:=hr.units
 refine ⟨_,(ae (aG false 2 nd (aa 1))
   (ae (cZ 3 nd (fY af))
   (ae (cz rfl PassesOwn.never (bJ rfl T.B.range (ab (aH ba rfl T.B.len aZ (ab (aa 0) af)) af)) (aM 4 nd) (ae (aX (DW.dt (iW (aD (eZ hu) (aw bz (aa 1) aq) aq (aN _)) (gx (aD mV (aB (aa 0) (aa 4)) (pE (NC:= ["_law_at","_law_land"]) (src:= [none,some 0]) rfl (lA (ar eG)) ⟨rfl,rfl,trivial⟩ (bu (aa 3)) (λ_ _ _=>(bW 0 (show (["_law_at","_law_land"]:List Str).Nodup from by decide+kernel))) (λ_ _ _=>fB) (λ_ _ _=>(aB (aa 1) (aa 0)))) (by with_unfolding_all rfl))))) (ah (g7 false 3 (aa 4))) aF)
   (ah (aG false 1 nd (aw fi (aa 1) aq)))))
   (ae (aX (aD (eZ hu) (aa 3) (bF af) (aN _)) (ah (aL (bF (ab (aw bz (aa 2) (aH ba rfl T.B.len aZ (ab (aa 0) af))) af)))) aF)
   (ah (aL (aa 3))))))),?_⟩
 obtain ⟨r,n,rfl,r0,Sv,q⟩:=h;have lr:(r.map ag).length=r.length:=aW _;refine ⟨_,rfl,trivial,?_⟩;refine ⟨by show 0≤sizeLine;decide,?_⟩
 refine ⟨_,rfl,⟨by omega,by show ((r.map ag).length:Int)<2^62;omega⟩,?_⟩
 rw [show (((r.map ag).length:Int)).toNat=r.length by omega]
 refine b9 (λj ρ=>∃(y:Int)(ks:List Nat)(o4:Option D),ρ= [some (ao r),some (.int y),some (.int n),some (ao ks),o4]∧ks.length≤j∧(∀k∈ks,k<r.length)∧(ks.map λk=>r.getD k 0).Nodup) ⟨n,[],_,rfl,bC _,(λk h=>nomatch h),fW⟩ ?_ ?_
 ·rintro j _ hj ⟨y,ks,o4,rfl,hl,lt,nk⟩ A hA
  refine ⟨_,rfl,(by show (0:Int)<2;decide),BP ⟨_,rfl,bw (λ_=>?_) (λ_=>bX ⟨_,rfl,⟨by decide,by decide⟩,trivial,hA _ ⟨_,ks,some (ag j),rfl,by omega,lt,nk⟩⟩)⟩⟩
  refine ⟨_,rfl,_,rfl,_,fC hj,_,rfl,?_⟩;refine hC (ρ:= [none,some (ao r)]) ag (λk=>ag (r.getD k 0)) ks _ (λk hk Y hY=>?_) rfl (small (by omega)) λaz=>?_
  ·exact ⟨_,rfl,_,rfl,_,fC (lt k hk),hY⟩
  have e:(ks.map λk=>ag (r.getD k 0))=(ks.map λk=>r.getD k 0).map ag:=by rw [oj];rfl
  rw [e];refine ⟨rfl,cF _,_,rfl,?_⟩;refine (?_:if (if true=true then !inD (ag (r.getD j 0)) ((ks.map λk=>r.getD k 0).map ag) else _)=true then _ else _);rw [if_pos rfl,jE];refine bw (λc=>?_) (λc=>⟨_,rfl,⟨by decide,by decide⟩,trivial,hA _ ⟨_,ks,some (ag j),rfl,by omega,lt,nk⟩⟩)
  have c:r.getD j 0∉ks.map λk=>r.getD k 0:=of_decide_eq_false (by simpa only [Bool.not_eq_true'] using c)
  refine ⟨_,rfl,_,rfl,trivial,b4 (by rw [aW];omega),?_⟩
  refine ⟨_,rfl,⟨by decide,by decide⟩,trivial,hA _ ⟨y / 2,ks++ [j],some (ag j),?_,?_,λk hk=>?_,?_⟩⟩
  ·unfold ao;rw [cM];rfl
  ·rw [cK];simp only [mv];omega
  ·rcases cu.mp hk with h|h
   ·exact lt k h
   ·rw [cE] at h;rw [h];exact hj
  ·rw [cM,jS]
   refine ⟨nk,by simp,λa ha b hb z=>c ?_⟩
   have hb:b=r.getD j 0:=by simpa using hb
   rw [←hb,←z];exact ha
 ·rintro _ ⟨y,ks,o4,rfl,hl,lt,nk⟩
  refine ⟨_,rfl,by show 0≤sizeLine;decide,?_⟩
  refine (?_:mF (ao ks) (ao []) _);refine tW ⟨_,rfl,bw (λe=>?_) (λe=>?_)⟩
  ·have m:=gE n ((r.map ag).length:Int) (by omega)
   refine ⟨_,rfl,_,rfl,(by show (0:Int)<((r.map ag).length:Int);omega),by show 1≤sizeLine;decide,?_⟩
   have:=q [(n%((r.map ag).length:Int)).toNat] ⟨Nat.succ_pos _,λk hk=>by rw [cE] at hk;omega,by simp⟩
   have e2:ao [(n%((r.map ag).length:Int)).toNat]= .lst [.int (n%((r.map ag).length:Int))]:=by
    show D.lst [.int (((n%((r.map ag).length:Int)).toNat:Nat):Int)]=_;rw [show (((n%((r.map ag).length:Int)).toNat:Nat):Int)=n%((r.map ag).length:Int) by omega]
   rw [e2] at this;exact this
  ·have e:ks≠ []:=of_decide_eq_false e
   exact ⟨_,rfl,q ks ⟨List.length_pos_iff.mpr e,lt,nk⟩⟩
variable {P:Program} {w:World} {mg:Str→Option Value} {base:Heap} {Z:DC} (T:Txt Z mg)
theorem vB{w v:W}(g:Good w){ps:List Nat}(ne:0<ps.length)(lt:∀p∈ps,p<w.length)(len:v.length=w.length+1)(ln:(row v w.length).Nodup)(last:∀x,x∈row v w.length↔x∈ps)(nod:∀p,p<w.length→(row v p).Nodup)(mem:∀p,p<w.length→∀q,q∈row v p↔q∈row w p∨(q=w.length∧p∈ps)):Good v:=by
 have nn:w.length∉ps:=λh=>jk _ (lt _ h)
 have cs:∀{p q},q∈row v p→(p<w.length∧(q∈row w p∨(q=w.length∧p∈ps)))∨(p=w.length∧q∈ps):=λ {p q} h=>by
  have:=bN h
  by_cases z:p=w.length
  ·subst z;exact .inr ⟨rfl,(last q).mp h⟩
  ·have:p<w.length:=by omega
   exact .inl ⟨this,(mem p this q).mp h⟩
 have up:∀{a b},Reach w a b→Reach v a b:=λ {a b} h=>by
  induction h with
  |refl=>exact .refl _
  |step _ hr ih=>exact .step ih ((mem _ (bN hr) _).mpr (.inl hr))
 refine ⟨λp q h=>?_,λp h=>?_,λp=>?_,λp q h=>?_,λp hp=>?_⟩
 ·rcases cs h with ⟨_,h| ⟨h,_⟩⟩ | ⟨_,h⟩
  ·have:=g.rng p q h;omega
  ·omega
  ·have:=lt q h;omega
 ·rcases cs h with ⟨_,h| ⟨_,h⟩⟩ | ⟨e,h⟩
  ·exact g.irr p h
  ·have:=lt p h;omega
  ·subst e;exact nn h
 ·by_cases z:p<w.length
  ·exact nod p z
  ·by_cases e:p=w.length
   ·subst e;exact ln
   ·have:row v p= []:=List.eq_nil_iff_forall_not_mem.mpr λq h=>by have:=bN h;omega
    rw [this];exact fW
 ·rcases cs h with ⟨hp,h2| ⟨e,h2⟩⟩ | ⟨e,h2⟩
  ·have s:=g.sym p q h2
   exact (mem q (bN s) p).mpr (.inl s)
  ·subst e;exact (last p).mpr h2
  ·subst e;exact (mem q (lt q h2) _).mpr (.inr ⟨rfl,h2⟩)
 ·by_cases z:p<w.length
  ·exact up (g.con p z)
  ·obtain rfl:p=w.length:=by omega
   obtain ⟨x,hx⟩:=List.exists_mem_of_length_pos ne;exact .step (up (g.con x (lt x hx))) ((mem x (lt x hx) _).mpr (.inr ⟨rfl,hx⟩))
theorem Ab{c:b6}{md:List Nat}{m:Bool}{i:Nat}{te:aQ}{E:cv}{ρ:DN}{x0:Int}(B:Prop)(Ok:Int→Prop)(h0:ρ[i]? =some (some (.int x0)))(Ga:¬B→Ok x0)(hc:∀Q:Bool→Prop,(B→Q true)→(¬B→Q false)→c ρ Q)(ht:B→∀Q:D→Prop,(∀x:Int,Ok x→Q (.int x))→te (oG md m ρ) Q)
  (hk:∀x:Int,Ok x→E.nx (ρ.set i (some (.int x)))):pA c (tY md m i te) kD E ρ:=by
 refine hc _ (λb=>cq (ht b _ λx hx=>⟨?_,hk x hx⟩)) (λb=>bX ?_)
 ·cases m
  ·trivial
  ·rfl
 ·have:=hk x0 (Ga b)
  obtain ⟨hi,e⟩:=eo.mp h0;rw [←e,List.set_getElem_self] at this;exact this
theorem yE{r:List Nat}{k:Nat}(h:k<r.length):cX (r.map ag) ((k:Int)-1)=some (ag (r.getD ((k+(r.length-1))%r.length) 0)):=by
 cases k with
 |zero=>
  rw [mB,oe (by omega)]
  refine r8 (j:=r.length-1) (n:=r.length) (aW _) ?_ ?_
  ·unfold ee
   rw [if_neg (by omega),if_pos (by omega)]
   exact congrArg some (by omega)
  ·rw [cU,cP,eN (by omega:r.length-1<r.length)];rfl
 |succ k=>
  rw [show k+1+(r.length-1)=k+r.length by omega,Nat.add_mod_right,oe (by omega),show ((k+1:Nat):Int)-1=(k:Int) by omega]
  exact fC (by omega)
def Bd:cp:=λds P=>∃(w:W)(r ks:List Nat),ds= [aC w,ao r,ao ks]∧Good w∧1≤w.length∧w.length≤13∧jW w r∧Dr r ks∧∀v,Good v→v.length=w.length+1→P (aC v)
theorem qf:FnOk P w Z.K mg base bQ 1 T.d__law_grown.f T.d__law_grown.fd ["_law_turns","_law_land","_law_places_here"] (aU Z Bd):=by
 have nd:=jN.nd;refine bc T.d__law_grown.F jN [0,0,0,1,1,0,0,0] (by decide) (λds R h=>by obtain ⟨_,_,_,rfl,_⟩:=h;rfl) (λbg A outer s H E ds R hr h=>?_)
 have hu:=hr.units
 refine ⟨_,(ae (qY 3 (NC:= ["_law_turn"]) (src:= [none]) rfl nd (lA (ar fo)) trivial (bu (aa 0)) (λ_ _ _=>(bW 0 (show (["_law_turn"]:List Str).Nodup from by decide+kernel))) (λ_ _ _=>fB) (λ_ _ _=>(iU lz rfl T.B.list dD (ab (aa 0) af))))
   (ae (cZ 4 nd (fY af))
   (ae (cL rfl PassesOwn.never (BM rfl T.B.reversed (ab (aa 2) af)) (aM 5 nd) (ae (zD 6 3 nd (aB (aa 1) (aa 5)))
   (ae (aG false 7 nd aq)
   (ae (aX (aD (ig hu) (aa 6) (bF af) (aN _)) (ah (aG false 7 nd (aw bx (mH (aa 6) (aB (aa 1) (aw oQ (aa 5) aq))) aq))) aF)
   (ae (vo 3 (aB (aa 1) (aa 5)) (BH (aw bx (eX (aa 6) gu (gw (aa 7))) (bF (ab (aH ba rfl T.B.len aZ (ab (aa 0) af)) af))) (eX (aa 6) (gw (aa 7)) gu)))
   (ah (g7 false 4 (aB (aa 1) (aa 5)))))))))
   (ah (aL (aw bx (aa 3) (bF (ab (aa 4) af)))))))),?_⟩
 obtain ⟨w',r,ks,rfl,g,h1,Jc,L,K,q⟩:=h;have lw:(w'.map ao).length=w'.length:=aW _;refine ⟨_,rfl,?_⟩;refine hC (ρ:= [none]) ao ao w' _ (λx hx Y hY=>⟨_,rfl,hY⟩) rfl (small (by omega)) λaz=>?_
 refine ⟨by show 0≤sizeLine;decide,?_⟩
 refine ⟨_,rfl,?_⟩;refine (?_:jB _ _ _ (ks.map ag).reverse _);rw [←List.map_reverse];have nr:(ks.reverse.map λk=>r.getD k 0).Nodup:=by rw [List.map_reverse];exact (List.reverse_perm _).nodup_iff.mpr K.nd
 refine bK (λj ρ=>∃(v:W)(o5 o6 o7:Option D),ρ= [some (aC w'),some (ao r),some (ao ks),some (aC v),some (ao ((ks.reverse.take j).map λk=>r.getD k 0)),o5,o6,o7]∧v.length=w'.length∧(∀p,p<w'.length→p∉((ks.reverse.take j).map λk=>r.getD k 0)→row v p=row w' p)∧(∀p,p<w'.length→(row v p).Nodup)∧∀p,p<w'.length→∀x,x∈row v p↔x∈row w' p∨(x=w'.length∧p∈(ks.reverse.take j).map λk=>r.getD k 0))
  ⟨w',_,_,_,rfl,rfl,λp _ _=>rfl,λp _=>g.nod p,λp _ x=>⟨.inl,λh=>h.elim id λh=>nomatch h.2⟩⟩ ?_ ?_
 ·rintro j _ _ hd ⟨v,o5,o6,o7,rfl,vl,same,vn,vm⟩ A hA
  obtain ⟨k,hk,rfl⟩:=cj hd;have kk:k∈ks:=rW.mp (eJ hk);have kr:=K.lt k kk;have al:=L.lt k kr;have tk:ks.reverse.take (j+1)=ks.reverse.take j++ [k]:=by rw [List.take_succ,hk];rfl
  generalize FH:((ks.reverse.take j).map λk=>r.getD k 0)=dn at same vm ⊢;have td:((ks.reverse.take (j+1)).map λk=>r.getD k 0)=dn++ [r.getD k 0]:=by rw [tk,cM,FH];rfl
  have na:r.getD k 0∉dn:=λz=>by
   have:=nr
   rw [←xJ (j+1) ks.reverse,cM,td] at this
   have:=(jS.mp (jS.mp this).1).2.2 _ z _ (cE.mpr rfl)
   exact this rfl
  have dl:dn.length≤196:=by
   have h1:=aR (m:=List.range w'.length) (l:=dn) (by rw [←FH,rX];exact nr.sublist (List.take_sublist ..)) λx hx=>by
    rw [←FH] at hx;obtain ⟨y,hy,rfl⟩:=eO.mp hx;exact cN.mpr (L.lt y (K.lt y (rW.mp (List.mem_of_mem_take hy))))
   rw [kA] at h1;omega
  generalize ea:r.getD k 0=a at*;have rl:=fE g a;have ra:row v a=row w' a:=same a al na;have Ez:cX (r.map ag) (k:Int)=some (ag a):=by rw [fC kr,ea]
  have lr:((row w' a).map ag).length=(row w' a).length:=aW _;refine ⟨_,rfl,_,rfl,_,rfl,_,Ez,_,_,rfl,fD (by rw [vl];exact al),?_⟩
  refine ⟨trivial,?_⟩;rw [ra];dsimp only;refine tX ?_;refine (?_:pA _ (tY [0,0,0,1,1,0,0,0] false 7 _) kD _ [some (aC w'),some (ao r),some (ao ks),some (aC v),some (ao dn),some (ag k),some (ao (row w' a)),some (.int 0)]);refine Ab (row w' a≠ []) (λz=>0≤z∧z≤(row w' a).length) (x0:=0) (by rfl) (λ_=>⟨by omega,by omega⟩) (λQ h1 h2=>?_) (λne Q hQ=>?_) λz hz=>?_
  ·refine ⟨_,rfl,by show 0≤sizeLine;decide,?_⟩
   refine (?_:pB (ao (row w' a)) (ao []) _);refine pC ⟨_,rfl,?_⟩
   by_cases e:row w' a= []
   ·rw [decide_eq_true e];exact h2 (λz=>z e)
   ·rw [decide_eq_false e];exact h1 e
  ·obtain ⟨x,hx⟩:=List.exists_mem_of_ne_nil _ ne
   have n2:2≤w'.length:=by
    have:=g.rng a x hx
    have:x≠a:=λe=>g.irr a (by rw [e] at hx;exact hx)
    omega
   have hb:=L.tie n2 k kr;rw [ea] at hb;have fx:=iZ hb;have il:=rS.mpr hb;exact ⟨_,rfl,_,rfl,_,rfl,_,rfl,_,yE kr,rfl,cF _,_,_,fx.1,fx.2.1,fx.2.2,hQ _ ⟨by omega,by omega⟩⟩
  obtain ⟨i,rfl⟩:∃i:Nat,z=(i:Int):=⟨z.toNat,by omega⟩
  have il:i≤(row w' a).length:=by omega
  have ca:cutD ((row w' a).map ag) none (some (i:Int))=((row w' a).take i).map ag:=by rw [iT _ _ (by rw [lr];omega),rX]
  have cb:cutD ((row w' a).map ag) (some (i:Int)) none=((row w' a).drop i).map ag:=by rw [kC _ _ (by rw [lr];omega),List.map_drop]
  have s1:(cutD ((row w' a).map ag) none (some (i:Int))).length+1≤sizeLine:=by rw [ca,aW,ji];exact small (by omega)
  have ei:(cutD ((row w' a).map ag) none (some (i:Int))++ [ag (w'.map ao).length])++cutD ((row w' a).map ag) (some (i:Int)) none=(ins (row w' a) i w'.length).map ag:=by
   rw [ca,cb,lw];unfold ins;rw [cM,mw];rfl
  have s2:(cutD ((row w' a).map ag) none (some (i:Int))++ [ag (w'.map ao).length]).length+(cutD ((row w' a).map ag) (some (i:Int)) none).length≤sizeLine:=by
   rw [←cK,ei,aW,pS];exact small (by omega)
  refine ⟨_,rfl,_,rfl,_,rfl,by show 1≤sizeLine;decide,s1,_,rfl,_,rfl,_,rfl,_,rfl,s2,?_⟩
  have fl:((cutD ((row w' a).map ag) none (some (i:Int))++ [ag (w'.map ao).length])++cutD ((row w' a).map ag) (some (i:Int)) none).all bY=true:=by rw [ei];exact cF _
  have ix:ee (v.map ao).length (a:Int)=some a:=by
   unfold ee;rw [if_pos (by omega),if_pos (by rw [aW,vl];omega)]
   exact congrArg some (by omega)
  refine ⟨fl,_,rfl,_,rfl,_,rfl,_,Ez,_,a,rfl,ix,?_⟩;refine ⟨_,rfl,_,rfl,_,rfl,_,Ez,trivial,b4 (by rw [aW];omega),?_⟩
  have Rh:w'.length∉row w' a:=λz=>jk _ (g.rng _ _ z);have rs:∀p,row (v.set a (ins (row w' a) i w'.length)) p=if a=p then ins (row w' a) i w'.length else row v p:=λp=>Wb.uI (by rw [vl];exact al)
  refine hA _ ⟨v.set a (ins (row w' a) i w'.length),some (ag k),some (ao (row w' a)),some (ag i),?_,by rw [eM,vl],λp hp np=>?_,λp hp=>?_,λp hp x=>?_⟩
  ·have e3:aC (v.set a (ins (row w' a) i w'.length))= .lst ((v.map ao).set a (.lst ((cutD ((row w' a).map ag) none (some (i:Int))++ [ag (w'.map ao).length])++cutD ((row w' a).map ag) (some (i:Int)) none))):=by
    rw [ei];exact congrArg D.lst (rR ..).symm
   have e4:ao (dn++ [a])= .lst (dn.map ag++ [ag a]):=by unfold ao;rw [cM];rfl
   rw [td,e3,e4];rfl
  ·rw [td] at np
   rw [cu] at np;rw [rs,if_neg (λe=>np (.inr (cE.mpr e.symm)))];exact same p hp λz=>np (.inl z)
  ·rw [rs]
   split
   ·exact p9 (g.nod a) Rh
   ·exact vn p hp
  ·rw [rs,td,cu,cE]
   split
   ·next e=>
    subst e;rw [uu];exact ⟨λh=>h.elim (λh=> .inr ⟨h, .inr rfl⟩) .inl,λh=>h.elim .inr λh=> .inl h.1⟩
   ·next e=>
    rw [vm p hp x];exact or_congr Iff.rfl (and_congr Iff.rfl ⟨.inl,λh=>h.elim id λh=>absurd h.symm e⟩)
 ·rintro _ ⟨v,o5,o6,o7,rfl,vl,same,vn,vm⟩
  rw [aW,List.take_length] at same vm ⊢;have RQ:0<(ks.reverse.map λk=>r.getD k 0).length:=by rw [aW,xK];exact K.ne
  have RF:∀p∈ks.reverse.map (λk=>r.getD k 0),p<w'.length:=λp hp=>by
   obtain ⟨k,hk,rfl⟩:=eO.mp hp;exact L.lt k (K.lt k (rW.mp hk))
  have rs:∀p,row (v++ [ks.reverse.map λk=>r.getD k 0]) p=if p=w'.length then ks.reverse.map (λk=>r.getD k 0) else row v p:=λp=>by
   unfold row;rw [cP,cP]
   by_cases e:p=w'.length
   ·rw [if_pos e,jh (by omega),show p-v.length=0 by omega];rfl
   ·rw [if_neg e]
    by_cases z:p<v.length
    ·rw [iQ z]
    ·rw [h8 (by rw [cK];simp only [mv];omega),h8 (by omega)]
  have G2:Good (v++ [ks.reverse.map λk=>r.getD k 0]):=by
   refine vB g RQ RF (by rw [cK,vl];rfl) ?_ (λx=>?_) (λp hp=>?_) λp hp x=>?_
   ·rw [rs,if_pos rfl];exact nr
   ·rw [rs,if_pos rfl]
   ·rw [rs,if_neg (by omega)];exact vn p hp
   ·rw [rs,if_neg (by omega)];exact vm p hp x
  have:=q _ G2 (by rw [cK,vl];rfl)
  have ew:aC (v++ [ks.reverse.map λk=>r.getD k 0])= .lst (v.map ao++ [ao (ks.reverse.map λk=>r.getD k 0)]):=by unfold aC;rw [cM];rfl
  rw [ew] at this;exact ⟨_,rfl,_,rfl,by show 1≤sizeLine;decide,by rw [aW];exact small (by simp only [mv];omega),this⟩
variable {P:Program} {w:World} {mg:Str→Option Value} {base:Heap} {Z:DC} (T:Txt Z mg)
def C7:cp:=λds P=>∃(xs:List Int),ds= [.lst (bo xs)]∧xs.length≤13∧∀w,Good w→w.length=xs.length+1→P (aC w)
theorem yc:Good [[]]:=⟨λp q h=>by have:=bN h;cases p<;>simp [row] at h,λp h=>by have:=bN h;cases p<;>simp [row] at h,λp=>by cases p<;>simp [row],λp q h=>by have:=bN h;cases p<;>simp [row] at h,λp hp=>by
 obtain rfl:p=0:=by simpa using hp
 exact .refl _⟩
theorem sQ:FnOk P w Z.K mg base bQ 2 T.d__law_web.f T.d__law_web.fd ["_law_draws_here"] (aU Z C7):=by
 have nd:=ma.nd;refine bc T.d__law_web.F ma [0,0,0,0,0] (by decide) (λds R h=>by obtain ⟨_,rfl,_⟩:=h;rfl) (λbg A outer s H E ds R hr h=>?_)
 have hu:=hr.units
 refine ⟨_,(ae (aG false 1 nd (bF (ab (bF af) af)))
   (ae (cL rfl PassesOwn.never (bu (aa 0)) (aM 2 nd) (ae (aG false 3 nd (ay T.d__law_lands (qg T) hr (ab (aa 1) af)))
   (ae (aG false 4 nd (aB (aa 3) (aw bz (aa 2) (aH ba rfl T.B.len aZ (ab (aa 3) af)))))
   (ah (aG false 1 nd (ay T.d__law_grown (qf T) hr (ab (aa 1) (ab (aa 4) (ab (ay T.d__law_places (oz T) hr (ab (aa 4) (ab (aw fi (aa 2) (aH ba rfl T.B.len aZ (ab (aa 3) af))) af))) af)))))))))
   (ah (aL (aa 1))))),?_⟩
 obtain ⟨xs,rfl,Jc,q⟩:=h;refine ⟨by show 0≤sizeLine;decide,by show 1≤sizeLine;decide,trivial,?_⟩
 refine ⟨_,rfl,?_⟩;refine bK (λj ρ=>∃(w:W)(o2 o3 o4:Option D),ρ= [some (.lst (bo xs)),some (aC w),o2,o3,o4]∧Good w∧w.length=j+1) ⟨[[]],_,_,_,rfl,yc,rfl⟩ ?_ ?_
 ·rintro j _ _ hd ⟨v,o2,o3,o4,rfl,g,vl⟩ A hA
  obtain ⟨x,hx,rfl⟩:=cj hd;have jl:=(eo.mp hx).1;refine ⟨_,rfl,v,rfl,g,by omega,by omega,λrs r0 rl ok=>⟨trivial,?_⟩⟩
  have lr:(rs.map ao).length=rs.length:=aW _;have e0:(0:Int)<((rs.map ao).length:Int):=by rw [lr];omega
  have m:=gE x ((rs.map ao).length:Int) e0;obtain ⟨i,hi⟩:∃i:Nat,x%((rs.map ao).length:Int)=(i:Int):=⟨(x%((rs.map ao).length:Int)).toNat,by omega⟩
  have il:i<rs.length:=by omega
  have Ol:cX (rs.map ao) (x%((rs.map ao).length:Int))=some (ao (rs.getD i [])):=by
   rw [hi];exact dR (by rw [cU,cP,eN il];rfl)
  have L:jW v (rs.getD i []):=ok _ (by rw [cP,eN il];exact og il)
  refine ⟨_,rfl,_,rfl,_,rfl,e0,_,Ol,trivial,?_⟩;refine ⟨_,rfl,_,rfl,_,rfl,_,rfl,_,rfl,⟨e0,by show ((rs.map ao).length:Int)<1073741824;rw [lr];omega⟩,?_⟩
  refine ⟨rs.getD i [],_,rfl,L.ne,L.sz,λks K=>⟨v,rs.getD i [],ks,rfl,g,by omega,by omega,L,K,λv2 g2 l2=>⟨trivial,?_⟩⟩⟩
  exact hA _ ⟨v2,_,_,_,rfl,g2,by omega⟩
 ·rintro _ ⟨v,o2,o3,o4,rfl,g,vl⟩
  exact ⟨_,rfl,q v g (by rw [vl];unfold bo;rw [aW])⟩
variable {P:Program} {w:World} {mg:Str→Option Value} {base:Heap} {Z:DC} (T:Txt Z mg)
theorem pP{w v:W}(g:Good w)(len:v.length=w.length)(nod:∀p,p<w.length→(row v p).Nodup)(mem:∀p,p<w.length→∀q,q∈row v p↔q∈row w p):Good v:=by
 have all:∀{p q},q∈row v p↔q∈row w p:=λ {p q}=>by
  by_cases h:p<w.length
  ·exact mem p h q
  ·exact ⟨λz=>absurd (bN z) (by omega),λz=>absurd (bN z) h⟩
 refine ⟨λp q h=>by rw [len];exact g.rng p q (all.mp h),λp h=>g.irr p (all.mp h),λp=>?_,λp q h=>all.mpr (g.sym p q (all.mp h)),λp hp=>?_⟩
 ·by_cases z:p<w.length
  ·exact nod p z
  ·have:row v p= []:=List.eq_nil_iff_forall_not_mem.mpr λq h=>by have:=bN h;omega
   rw [this];exact fW
 ·have up:∀{a b},Reach w a b→Reach v a b:=λ {a b} h=>by
   induction h with
   |refl=>exact .refl _
   |step _ hr ih=>exact .step ih (all.mpr hr)
  exact up (g.con p (by omega))
def named(w:W)(ns:List Nat):W:=(List.range w.length).map λp=>(row w (ns.getD p 0)).map λq=>ns.idxOf q
theorem iH{ns:List Nat}{x:Nat}(h:x∈ns):ns.getD (ns.idxOf x) 0=x∧ns.idxOf x<ns.length:=by
 have hl:=rS.mpr h;refine ⟨?_,hl⟩;rw [cP,eN hl];exact u4 hl
theorem zO{ns:List Nat}(nd:ns.Nodup){i:Nat}(h:i<ns.length):ns.idxOf (ns.getD i 0)=i:=by
 rw [cP,eN h];exact nd.idxOf_getElem i h
theorem kW{w:W}{ns:List Nat}{p:Nat}(h:p<w.length):row (named w ns) p=(row w (ns.getD p 0)).map λq=>ns.idxOf q:=by
 unfold named row;rw [cP,cU,rV h];rfl
theorem uf{w:W}{ns:List Nat}(g:Good w)(N:vd w.length ns):Good (named w ns):=by
 have lt:∀p,p<w.length→ns.idxOf p<w.length:=λp hp=>by have:=(iH (dO N hp)).2;rw [N.1] at this;exact this
 refine yd (ord:=λp=>ns.idxOf p) g (by unfold named;simp) lt (λp q hp hq e=>?_) (λy hy=>?_) (λp hp=>?_)
 ·have:=(iH (dO N hp)).1
  have:=(iH (dO N hq)).1
  have e:ns.idxOf p=ns.idxOf q:=e;exact (iH (dO N hp)).1.symm.trans (by rw [e];exact (iH (dO N hq)).1)
 ·have B6:y<ns.length:=by rw [N.1];exact hy
  exact ⟨ns.getD y 0,N.2.2 _ (getD_mem B6),zO N.2.1 B6⟩
 ·rw [kW (lt p hp),(iH (dO N hp)).1]
def Be:cp:=λds P=>∃(w:W)(xs:List Int),ds= [aC w, .lst (bo xs)]∧Good w∧1≤w.length∧w.length≤14∧xs.length=w.length∧∀v,Good v→v.length=w.length→P (aC v)
theorem qh:FnOk P w Z.K mg base bQ 1 T.d__law_named.f T.d__law_named.fd ["_law_turns","_law_draws_here"] (aU Z Be):=by
 have nd:=jP.nd;refine bc T.d__law_named.F jP [0,0,0,0,0,1,0,0] (by decide) (λds R h=>by obtain ⟨_,_,rfl,_⟩:=h;rfl) (λbg A outer s H E ds R hr h=>?_)
 have hu:=hr.units
 refine ⟨_,(ae (aG false 2 nd (bF af))
   (ae (cz rfl PassesOwn.never (bJ rfl T.B.range (ab (aH ba rfl T.B.len aZ (ab (aa 0) af)) af)) (aM 3 nd) (ae (aG false 4 nd (aw bz (aB (aa 1) (aa 3)) (aw bx (aa 3) aq)))
   (ah (aG false 2 nd (aw bx (aw bx (eX (aa 2) gu (gw (aa 4))) (bF (ab (aa 3) af))) (eX (aa 2) (gw (aa 4)) gu))))))
   (ae (cZ 5 nd (fY af))
   (ae (cz rfl PassesOwn.never (bJ rfl T.B.range (ab (aH ba rfl T.B.len aZ (ab (aa 0) af)) af)) (aM 6 nd) (ae (mJ 7 (NC:= ["_law_q","_law_names"]) (src:= [none,some 2]) rfl nd (lA (ar fq)) ⟨rfl,rfl,trivial⟩ (bu (aB (aa 0) (aB (aa 2) (aa 6)))) (λ_ _ _=>(bW 0 (show (["_law_q","_law_names"]:List Str).Nodup from by decide+kernel))) (λ_ _ _=>fB) (λ_ _ _=>(mH (aa 1) (aa 0))))
   (ae (aG false 4 nd (aw bz (aw fi (aB (aa 1) (aa 6)) aq) (aH (zc rfl) rfl T.B.max BA (ab aq (ab (aH ba rfl T.B.len aZ (ab (aa 7) af)) af)))))
   (ah (g7 false 5 (aw bx (eX (aa 7) (gw (aa 4)) gu) (eX (aa 7) gu (gw (aa 4)))))))))
   (ah (aL (aa 5))))))),?_⟩
 obtain ⟨w',xs,rfl,g,h1,cf,xl,q⟩:=h;have lw:(w'.map ao).length=w'.length:=aW _;refine ⟨by show 0≤sizeLine;decide,trivial,?_⟩
 refine ⟨_,rfl,⟨by omega,by show ((w'.map ao).length:Int)<2^62;omega⟩,?_⟩
 rw [show (((w'.map ao).length:Int)).toNat=w'.length by omega]
 refine b9 (λj ρ=>∃(ns:List Nat)(o3 o4:Option D),ρ= [some (aC w'),some (.lst (bo xs)),some (ao ns),o3,o4,none,none,none]∧vd j ns) ⟨[],_,_,rfl,rfl,fW,λx h=>by cases h⟩ ?_ ?_
 ·rintro j _ hj ⟨ns,o3,o4,rfl,hl,nd,lt⟩ A hA
  have mq:=gE (xs.getD j 0) ((j:Int)+1) (by omega)
  have lr:(ns.map ag).length=j:=by rw [aW,hl]
  obtain ⟨i,hi⟩:∃i:Nat,xs.getD j 0%((j:Int)+1)=(i:Int):=⟨(xs.getD j 0%((j:Int)+1)).toNat,by omega⟩
  have il:i≤j:=by omega
  have ca:cutD (ns.map ag) none (some (xs.getD j 0%((j:Int)+1)))=(ns.take i).map ag:=by rw [hi,iT _ _ (by rw [lr];omega),rX]
  have cb:cutD (ns.map ag) (some (xs.getD j 0%((j:Int)+1))) none=(ns.drop i).map ag:=by rw [hi,kC _ _ (by rw [lr];omega),List.map_drop]
  have ei:(cutD (ns.map ag) none (some (xs.getD j 0%((j:Int)+1)))++ [ag j])++cutD (ns.map ag) (some (xs.getD j 0%((j:Int)+1))) none=(ins ns i j).map ag:=by
   rw [ca,cb];unfold ins;rw [cM,mw];rfl
  have s1:(cutD (ns.map ag) none (some (xs.getD j 0%((j:Int)+1)))).length+1≤sizeLine:=by rw [ca,aW,ji];exact small (by omega)
  have s2:(cutD (ns.map ag) none (some (xs.getD j 0%((j:Int)+1)))++ [ag j]).length+(cutD (ns.map ag) (some (xs.getD j 0%((j:Int)+1))) none).length≤sizeLine:=by
   rw [←cK,ei,aW,pS];exact small (by omega)
  refine ⟨_,rfl,_,rfl,_,cR (by omega),_,rfl,(by show (0:Int)<(j:Int)+1;omega),trivial,?_⟩
  refine ⟨_,rfl,_,rfl,_,rfl,by show 1≤sizeLine;decide,s1,_,rfl,_,rfl,s2,trivial,?_⟩
  refine hA _ ⟨ins ns i j,some (ag j),some (.int (xs.getD j 0%((j:Int)+1))),?_,by rw [pS,hl],p9 nd (λz=>by have:=lt j z;omega),λx hx=>?_⟩
  ·have e:ao (ins ns i j)= .lst ((cutD (ns.map ag) none (some (xs.getD j 0%((j:Int)+1)))++ [ag j])++cutD (ns.map ag) (some (xs.getD j 0%((j:Int)+1))) none):=by rw [ei];rfl
   rw [e];rfl
  ·rcases uu.mp hx with rfl|hx
   ·omega
   ·have:=lt x hx;omega
 ·rintro _ ⟨ns,o3,o4,rfl,N⟩
  have all:∀x,x<w'.length→x∈ns:=λx hx=>dO N hx;refine ⟨by show 0≤sizeLine;decide,?_⟩
  refine ⟨_,rfl,⟨by omega,by show ((w'.map ao).length:Int)<2^62;omega⟩,?_⟩
  rw [show (((w'.map ao).length:Int)).toNat=w'.length by omega]
  refine b9 (λj ρ=>∃(v:W)(o4 o6 o7:Option D),ρ= [some (aC w'),some (.lst (bo xs)),some (ao ns),o3,o4,some (aC v),o6,o7]∧v.length=j∧∀p,p<j→(row v p).Perm (row (named w' ns) p)) ⟨[],_,_,_,rfl,rfl,λp h=>by omega⟩ ?_ ?_
  ·rintro p _ hp ⟨v,o4,o6,o7,rfl,vl,vp⟩ A hA
   have np:ns.getD p 0<w'.length:=N.2.2 _ (by rw [cP,eN (by rw [N.1];exact hp)];exact og _)
   have rl:=fE g (ns.getD p 0);refine ⟨_,rfl,_,rfl,_,rfl,_,fC (by rw [N.1];exact hp),_,fD np,?_⟩
   refine hC (ρ:= [none,some (ao ns)]) ag (λx=>ag (ns.idxOf x)) (row w' (ns.getD p 0)) _ (λx hx Y hY=>?_) rfl (small (by omega)) λaz=>?_
   ·have fx:=iZ (all x (g.rng _ _ hx))
    exact ⟨_,rfl,_,rfl,_,rfl,rfl,cF _,_,_,fx.1,fx.2.1,fx.2.2,hY⟩
   refine ⟨trivial,?_⟩;have eT:(.lst ((row w' (ns.getD p 0)).map λx=>ag (ns.idxOf x)):D)=ao (row (named w' ns) p):=by rw [kW hp];unfold ao;rw [oj];rfl
   have tl:(row (named w' ns) p).length≤14:=by rw [kW hp,aW];omega
   rw [eT];generalize hT:row (named w' ns) p=t at tl ⊢;have lt:(t.map ag).length=t.length:=aW _;have pos:(0:Int)<(if ((t.map ag).length:Int)>1 then ((t.map ag).length:Int) else 1):=by split<;>omega
   have mq:=gE (xs.getD p 0 / 14) (if ((t.map ag).length:Int)>1 then ((t.map ag).length:Int) else 1) pos;refine ⟨_,rfl,_,rfl,_,cR (by omega),⟨by decide,by decide⟩,_,rfl,_,_,rfl,pos,trivial,?_⟩
   obtain ⟨i,hi⟩:∃i:Nat,xs.getD p 0 / 14%(if ((t.map ag).length:Int)>1 then ((t.map ag).length:Int) else 1)=(i:Int):=⟨(xs.getD p 0 / 14%(if ((t.map ag).length:Int)>1 then ((t.map ag).length:Int) else 1)).toNat,by omega⟩
   have il:i≤t.length:=by
    rw [hi] at mq;have h2:=mq.2
    split at h2<;>omega
   have ca:cutD (t.map ag) none (some (i:Int))=(t.take i).map ag:=by rw [iT _ _ (by rw [lt];omega),rX]
   have cb:cutD (t.map ag) (some (i:Int)) none=(t.drop i).map ag:=by rw [kC _ _ (by rw [lt];omega),List.map_drop]
   have s2:(cutD (t.map ag) (some (i:Int)) none).length+(cutD (t.map ag) none (some (i:Int))).length≤sizeLine:=by
    rw [ca,cb,aW,aW,List.length_drop,ji];exact small (by omega)
   refine (?_:DX _ _ _ _ _ [some (aC w'),some (.lst (bo xs)),some (ao ns),o3,some (.int (xs.getD p 0 / 14%(if ((t.map ag).length:Int)>1 then ((t.map ag).length:Int) else 1))),some (aC v),some (ag p),some (ao t)]);rw [hi];refine ⟨_,rfl,_,rfl,_,rfl,_,rfl,_,rfl,s2,trivial,b4 (by rw [aW];omega),?_⟩
   refine hA _ ⟨v++ [t.drop i++t.take i],some (.int (i:Int)),some (ag p),some (ao t),?_,by rw [cK,vl];rfl,λx hx=>?_⟩
   ·have e:aC (v++ [t.drop i++t.take i])= .lst (v.map ao++ [.lst (cutD (t.map ag) (some (i:Int)) none++cutD (t.map ag) none (some (i:Int)))]):=by
     rw [ca,cb,←cM];unfold aC;rw [cM];rfl
    rw [e];rfl
   ·by_cases z:x=p
    ·subst z
     have:row (v++ [t.drop i++t.take i]) x=t.drop i++t.take i:=by
      unfold row;rw [cP,jh (by omega),show x-v.length=0 by omega];rfl
     rw [this,hT]
     have:=List.perm_append_comm (l₁:=t.drop i) (l₂:=t.take i)
     rwa [xJ] at this
    ·have:row (v++ [t.drop i++t.take i]) x=row v x:=by
      unfold row;rw [cP,cP,iQ (by omega)]
     rw [this];exact vp x (by omega)
  ·rintro _ ⟨v,o4,o6,o7,rfl,vl,vp⟩
   have gn:=uf g N;have nl:(named w' ns).length=w'.length:=by unfold named;simp
   exact ⟨_,rfl,q v (pP gn (by rw [vl,nl]) (λp hp=>(vp p (by omega)).nodup_iff.mpr (gn.nod p)) λp hp x=>(vp p (by omega)).mem_iff) vl⟩
variable {P:Program} {w:World} {mg:Str→Option Value} {base:Heap} {Z:DC} (T:Txt Z mg)
def kF(low:Int)(m:Nat):List Int:=(List.range m).map λ(k:Nat)=>low+(k:Int)-1
def C6:cp:=λds P=>∃(c:Int),ds= [.int c]∧∀(low:Int)(m:Nat),2≤m→m≤4→P (.lst (bo (kF low m)))
theorem qO:FnOk P w Z.K mg base bQ 1 T.d__law_dyes.f T.d__law_dyes.fd ["_law_cell"] (aU Z C6):=by
 have nd:=ku.nd;refine bc T.d__law_dyes.F ku [0,0,0] (by decide) (λds R h=>by obtain ⟨_,rfl,_⟩:=h;rfl) (λbg A outer s H E ds R hr h=>?_)
 have hu:=hr.units
 refine ⟨_,(ae (aG false 1 nd (aw bx aq (aw bz (aa 0) aq)))
   (ae (aG false 2 nd (aw f7 (aw bz (aw fi (aa 0) aq) aq) (aw bz (aw fi (aa 0) aq) (aw sP aq aq))))
   (ah (aL (pE (NC:= ["_law_k","_law_low"]) (src:= [none,some 2]) rfl (lA (ar gb)) ⟨rfl,rfl,trivial⟩ (pF rfl T.B.range (ab (aa 1) af)) (λ_ _ _=>(bW 0 (show (["_law_k","_law_low"]:List Str).Nodup from by decide+kernel))) (λ_ _ _=>fB) (λ_ _ _=>(aw oQ (aw bx (aa 1) (aa 0)) aq))))))),?_⟩
 obtain ⟨c,rfl,q⟩:=h;have m3:=gE c 3 (by decide)
 have m4:=gE (c / 3) 3 (by decide)
 obtain ⟨m,hm⟩:∃m:Nat,2+c%3=(m:Int):=⟨(2+c%3).toNat,by omega⟩
 refine ⟨_,rfl,(by show (0:Int)<3;decide),trivial,?_⟩
 refine ⟨_,rfl,⟨by decide,by decide⟩,(by show (0:Int)<3;decide),_,rfl,⟨by decide,by decide⟩,⟨by decide,by decide⟩,(by show (0:Int)<10^59;decide), .inl ⟨by dsimp only;omega,by dsimp only;omega⟩,trivial,?_⟩
 refine ⟨_,rfl,⟨by show-(2^62)≤2+c%3;omega,by show 2+c%3<2^62;omega⟩,?_⟩
 rw [show (2+c%3).toNat=m by omega,qs]
 refine hC (ρ:= [none,some (.int _)]) (λ(x:Nat)=>ag x) (λ(k:Nat)=> .int (_+(k:Int)-1)) (List.range m) _ (λk hk Y hY=>⟨_,rfl,_,rfl,hY⟩) rfl (small (by rw [kA];omega)) λaz=>?_
 have:=q (c / 3%3*(c / 9%10^59)) m (by omega) (by omega)
 unfold bo kF at this;rw [oj] at this;exact this
variable {P:Program} {w:World} {mg:Str→Option Value} {base:Heap} {Z:DC} (T:Txt Z mg)
theorem rE:∀(w2:W)(o:Option D)(acc:List D)(N:List D→Prop),acc.length+w2.length≤sizeLine→N (acc++w2.map ao)→Aj (lE 0) (zJ (zr 0)) (w2.map ao) [o] acc N
 | [],o,acc,N,_,h=>by
  show N acc;simpa using h
 |x::xs,o,acc,N,hz,h=>by
  rw [dY] at hz;refine ⟨_,rfl,(by omega:acc.length<sizeLine),?_⟩
  refine rE xs _ (acc++ [ao x]) N (by simp;omega) ?_
  rw [mw];exact h
def wJ(r:List Nat)(i:Nat):List Nat:=(r.set i (r.getD (i+1) 0)).set (i+1) (r.getD i 0)
theorem yR(r:List Nat)(i:Nat)(h:i+1<r.length):(wJ r i).Perm r:=by
 unfold wJ;have e1:r.getD i 0=r[i]:=by rw [cP,eN (by omega)];rfl
 have e2:r.getD (i+1) 0=r[i+1]:=by rw [cP,eN h];rfl
 have hr:r=r.take i++r[i]::r[i+1]::r.drop (i+2):=by
  conv=>lhs;rw [←xJ i r]
  rw [Bu (by omega:i<r.length),Bu h]
 have lt:(r.take i).length=i:=by rw [ji];omega
 have hs:(r.set i (r.getD (i+1) 0)).set (i+1) (r.getD i 0)=r.take i++r[i+1]::r[i]::r.drop (i+2):=by
  rw [e1,e2];generalize r[i]=a at hr;generalize r[i+1]=b at hr;generalize r.take i=t at hr lt;generalize r.drop (i+2)=u at hr;subst hr;rw [List.set_append_right _ _ (by omega),List.set_append_right _ _ (by omega),lt,oh,show i+1-i=1 by omega];rfl
 rw [hs]
 conv=>rhs;rw [hr]
 exact List.Perm.append_left _ (.swap ..)
def wF:cp:=λds P=>∃(w:W)(n:Int),ds= [aC w, .int n]∧Good w∧1≤w.length∧w.length≤14∧∀v,Good v→v.length=w.length→P (aC v)
theorem mZ:FnOk P w Z.K mg base bQ 1 T.d__law_twisted.f T.d__law_twisted.fd ["_law_turns","_law_number"] (aU Z wF):=by
 have nd:=iN.nd;refine bc T.d__law_twisted.F iN [0,0,2,0,0] (by decide) (λds R h=>by obtain ⟨_,_,rfl,_⟩:=h;rfl) (λbg A outer s H E ds R hr h=>?_)
 have hu:=hr.units
 refine ⟨_,(ae (vk 2 (NC:= ["_law_turn"]) (src:= [none]) rfl nd (lA (ar dH)) trivial (bu (aa 0)) (λ_ _ _=>(bW 0 (show (["_law_turn"]:List Str).Nodup from by decide+kernel))) (λ_ _ _=>(lD rfl rfl T.B.list dD (aa 0))))
   (vq 2 3 4 nd rfl (aw bz (aa 1) (aH ba rfl T.B.len aZ (ab (aa 0) af))) (aD F8 (aH ba rfl T.B.len aZ (ab (aa 3) af)) aq (aN _)) (aw bz (aw fi (aa 1) aq) (aw oQ (aH ba rfl T.B.len aZ (ab (aa 3) af)) aq)) (fb (ab (aB (aa 3) (aw bx (aa 4) aq)) (ab (aB (aa 3) (aa 4)) af))) (aa 4) (aw bx (aa 4) aq)
   (ah (aL (aa 2))))),?_⟩
 obtain ⟨w',n,rfl,g,h1,cf,q⟩:=h;have lw:(w'.map ao).length=w'.length:=aW _;have mq:=gE n ((w'.map ao).length:Int) (by omega)
 obtain ⟨p,hp⟩:∃p:Nat,n%((w'.map ao).length:Int)=(p:Int):=⟨(n%((w'.map ao).length:Int)).toNat,by omega⟩
 have pl:p<w'.length:=by omega
 refine ⟨_,rfl,rE w' none [] _ (by rw [qD,mB];exact small (by omega)) ?_⟩
 rw [qC];refine (?_:wY _ _ _ _ _ _ _ _ _ _ _ [some (aC w'),some (.int n),some (aC w'),none,none])
 have ix:ee (w'.map ao).length (p:Int)=some p:=by
  unfold ee;rw [if_pos (by omega),if_pos (by omega)]
  exact congrArg some (by omega)
 have rl:=fE g p;have lr:((row w' p).map ag).length=(row w' p).length:=aW _;refine ⟨_,rfl,⟨by show 3<5;decide,by show 4<5;decide⟩,_,rfl,_,rfl,(by show (0:Int)<((w'.map ao).length:Int);omega),n%((w'.map ao).length:Int),p,_,rfl,by rw [hp];exact ix,mj pl,λl=>?_⟩
 refine ⟨_,rfl,_,rfl,bw (λhb=>?_) λ_=>?_⟩
 ·have l3:2<(row w' p).length:=by
   have:=of_decide_eq_true hb
   omega
  have m2:=gE (n / 14) (((row w' p).map ag).length-1:Int) (by omega)
  obtain ⟨i,hi⟩:∃i:Nat,n / 14%(((row w' p).map ag).length-1:Int)=(i:Int):=⟨(n / 14%(((row w' p).map ag).length-1:Int)).toNat,by omega⟩
  refine ⟨_,rfl,⟨by decide,by decide⟩,_,rfl,(by show (0:Int)<(((row w' p).map ag).length:Int)-1;omega),_,rfl,?_⟩
  have ai:cX ((row w' p).map ag) (n / 14%(((row w' p).map ag).length-1:Int))=some (ag ((row w' p).getD i 0)):=by rw [hi];exact fC (by omega)
  have MQ:cX ((row w' p).map ag) (n / 14%(((row w' p).map ag).length-1:Int)+1)=some (ag ((row w' p).getD (i+1) 0)):=by rw [hi];exact fC (p:=i+1) (by omega)
  have JU:∀k:Nat,k<(row w' p).length→ee ((row w' p).map ag).length (k:Int)=some k:=λk hk=>by
   unfold ee;rw [if_pos (by omega),if_pos (by omega)]
   exact congrArg some (by omega)
  have O8:ee ((row w' p).map ag).length (n / 14%(((row w' p).map ag).length-1:Int))=some i:=by rw [hi];exact JU i (by omega)
  have O9:ee ((row w' p).map ag).length (n / 14%(((row w' p).map ag).length-1:Int)+1)=some (i+1):=by rw [hi];exact JU (i+1) (by omega)
  refine ⟨_,rfl,_,rfl,_,MQ,_,rfl,_,rfl,_,ai,by show 2≤sizeLine;decide,_,_,rfl,?_⟩
  refine ⟨_,rfl,_,i,rfl,O8,_,rfl,_,i+1,rfl,O9,?_⟩;have hd:=yR (row w' p) i (by omega)
  have rs:∀x,row (w'.set p (wJ (row w' p) i)) x=if p=x then wJ (row w' p) i else row w' x:=λx=>Wb.uI pl
  have G2:Good (w'.set p (wJ (row w' p) i)):=by
   refine pP g (eM ..) (λx _=>?_) λx _ y=>?_
   ·rw [rs]
    split
    ·exact hd.nodup_iff.mpr (g.nod p)
    ·exact g.nod x
   ·rw [rs]
    split
    ·next e=>subst e;exact hd.mem_iff
    ·exact Iff.rfl
  have e:aC (w'.set p (wJ (row w' p) i))= .lst ((w'.map ao).set p (.lst ((((row w' p).map ag).set i (ag ((row w' p).getD (i+1) 0))).set (i+1) (ag ((row w' p).getD i 0))))):=by
   unfold wJ;rw [←qE,←qE];exact congrArg D.lst (rR ..).symm
  exact ⟨_,rfl,e▸q _ G2 (eM ..)⟩
 ·exact ⟨_,rfl,q _ g rfl⟩
variable {P:Program} {w:World} {mg:Str→Option Value} {base:Heap} {Z:DC} (T:Txt Z mg)
def oD:Option Int→D
 |none=> .aT
 |some i=> .int i
def aE(f:List (Option Int)):D:= .lst (f.map oD)
theorem qc(o:Option Int):bY (oD o)=true:=by cases o<;>rfl
theorem Cq(o:Option Int):jo (oD o)=true:=by cases o<;>rfl
theorem e7(f:List (Option Int)):(f.map oD).all bY=true:=List.all_eq_true.mpr λd h=>by
 obtain ⟨o,_,rfl⟩:=eO.mp h;exact qc o
theorem BQ(a b:Option Int):fS (oD a) (oD b)=decide (a=b):=by
 cases a<;>cases b<;>simp [oD,fS]
 rename_i a b
 rw [Bool.eq_iff_iff];simp
theorem oN(a:Option Int):∀l:List (Option Int),inD (oD a) (l.map oD)=decide (a∈l)
 | []=>rfl
 |b::l=>by
  have:=oN a l
  unfold inD at this ⊢;rw [jT,List.any_cons,this,BQ,Bool.eq_iff_iff];simp only [Bool.or_eq_true,decide_eq_true_eq,cV];exact or_congr ⟨Eq.symm,Eq.symm⟩ Iff.rfl
theorem bM{f:List (Option Int)}{p:Nat}(h:p<f.length):cX (f.map oD) (p:Int)=some (oD (f.getD p none)):=dR (by rw [cU,cP,eN h];rfl)
theorem sF{n p:Nat}(h:p<n):ee n (p:Int)=some p:=by
 unfold ee;rw [if_pos (by omega),if_pos (by omega)]
 exact congrArg some (by omega)
def oP:Option Int→PyData
 |none=> .none
 |some i=> .int i
theorem lF(a b:Option Int):PyData.eqv (oP a) (oP b)=true↔a=b:=by
 cases a<;>cases b<;>simp [oP,PyData.eqv]
theorem mL(a b:List (Option Int)):PyData.eqv (.list (a.map oP)) (.list (b.map oP))=true↔a=b:=by
 rw [PyData.eqv];exact g8 lF a b
theorem qZ(a b:List (Option Int)):PyData.eqv (.list (a.map oP)) (.list (b.map oP))=decide (a=b):=by
 by_cases e:a=b
 ·rw [decide_eq_true e];exact (mL a b).mpr e
 ·rw [decide_eq_false e]
  exact mx.mpr λz=>e ((mL a b).mp z)
theorem jx(a:List (Option Int)):(PyData.list (a.map oP)).depth≤2:=by
 have:=fc (f:=oP) (k:=1) (λo=>by cases o<;>simp [oP,PyData.depth]) a
 simp [PyData.depth];omega
theorem qr(o:Option Int):(oD o).py=some (oP o):=by cases o<;>rfl
theorem jI(f:List (Option Int)):(aE f).py=some (.list (f.map oP)):=by
 unfold aE;rw [D.py,i7 (g:=oP) qr];rfl
theorem mG{f g:List (Option Int)}{P:D→Prop}(h:P (.bl (!decide (f=g)))):pB (aE f) (aE g) P:=by
 refine ⟨_,_,jI f,jI g,by have:=jx f;omega,?_⟩
 rw [if_pos rfl,qZ];exact h
theorem xS{f g:List (Option Int)}{P:D→Prop}(h:P (.bl (decide (f=g)))):mF (aE f) (aE g) P:=by
 refine ⟨_,_,jI f,jI g,by have:=jx f;omega,?_⟩
 rw [if_neg dP,qZ];exact h
def Pr(w:W)(f:List (Option Int)):Prop:=∀p q d,q∈row w p→f.getD p none=some d→f.getD q none≠some d
theorem j3{f:List (Option Int)}{i:Nat}{c:Option Int}(h:i<f.length)(p:Nat):(f.set i c).getD p none=if p=i then c else f.getD p none:=by
 rw [cP,cP]
 by_cases e:p=i
 ·subst e
  rw [gO h,if_pos rfl];rfl
 ·rw [gP (Ne.symm e),if_neg e]
theorem Pr.set{w:W}{f:List (Option Int)}(g:Good w)(P:Pr w f){j:Nat}(hj:j<f.length){c:Option Int}(hc:∀d,c=some d→∀q∈row w j,f.getD q none≠some d):Pr w (f.set j c):=λp q d hq hp=>by
 rw [j3 hj] at hp ⊢
 by_cases e:p=j
 ·subst e
  rw [if_pos rfl] at hp;rw [if_neg (λe=>g.irr p (by rw [e] at hq;exact hq))]
  exact hc d hp q hq
 ·rw [if_neg e] at hp
  split
  ·next e2=>
   subst e2;intro z;exact hc d z p (g.sym _ _ hq) hp
  ·exact P p q d hq hp
def yM:cp:=λds P=>∃(w:W)(xs dy:List Int),ds= [aC w, .lst (bo xs), .lst (bo dy), .bl true]∧Good w∧w.length≤14∧xs.length=w.length∧dy.length≤100∧∀f:List (Option Int),f.length=w.length→Pr w f→(∀p d,f.getD p none=some d→d∈dy)→P (aE f)
theorem mW:FnOk P w Z.K mg base bQ 1 T.d__law_dyeing.f T.d__law_dyeing.fd ["_law_turns","_law_draws_here","_law_dyes_here","_law_none"] (eE Z 1 yM):=by
 have nd:=jb.nd;refine iE 1 T.d__law_dyeing.F jb [0,0,0,0,1,0,1,1] (by decide) (λds R h=>by obtain ⟨_,_,_,rfl,_⟩:=h;rfl) (λbg A outer s H E ds R hr h=>?_)
 have hu:=hr.units
 refine ⟨_,(ae (cZ 4 nd (BI (ab bL af) (aH ba rfl T.B.len aZ (ab (aa 0) af))))
   (ae (cz rfl PassesOwn.never (bJ rfl T.B.range (ab (aH ba rfl T.B.len aZ (ab (aa 0) af)) af)) (aM 5 nd) (ae (pH 6 nd (Fg (NC:= ["_law_q","_law_found"]) (src:= [none,some 4]) rfl (lA (ar cT)) ⟨rfl,rfl,trivial⟩ (bu (aB (aa 0) (aa 5))) (λ_ _ _=>(bW 0 (show (["_law_q","_law_found"]:List Str).Nodup from by decide+kernel))) (λ_ _ _=>fB) (λ_ _ _=>(aB (aa 1) (aa 0)))))
   (ae (pI 7 (NC:= ["_law_dye","_law_taken"]) (src:= [none,some 6]) rfl nd (lA (ar cT)) ⟨rfl,rfl,trivial⟩ (bu (aa 2)) (λ_ _ _=>(bW 0 (show (["_law_dye","_law_taken"]:List Str).Nodup from by decide+kernel))) (λ_ _ _=>(jy (aD mV (aa 0) (aa 1) (by with_unfolding_all rfl)))) (λ_ _ _=>(aa 0)))
   (ae (aX (DW.dt (vv (fe (aa 3)) (sq (aD (eZ hu) (aa 7) (bF af) (aN _))))) (ah (zy 7 nd (bF (ab bL af)))) aF)
   (ah (gd true 4 (aa 5) (aB (aa 7) (aw bz (aB (aa 1) (aa 5)) (aH ba rfl T.B.len aZ (ab (aa 7) af))))))))))
   (ah (pJ 4)))),?_⟩
 obtain ⟨w',xs,dy,rfl,g,cf,xl,dl,q⟩:=h;have lw:(w'.map ao).length=w'.length:=aW _
 have rp:(List.replicate w'.length [D.aT]).flatten=(List.replicate w'.length (none:Option Int)).map oD:=by
  rw [List.map_replicate];generalize w'.length=n
  induction n with
  |zero=>rfl
  |succ n ih=>rw [n5,qz,ih];rfl
 refine ⟨by show 1≤sizeLine;decide,_,rfl,by omega,by omega,by show 1*_≤sizeLine;exact small (by omega),?_⟩
 refine ⟨_,rfl,⟨by omega,by show ((w'.map ao).length:Int)<2^62;omega⟩,?_⟩
 rw [show (((w'.map ao).length:Int)).toNat=w'.length by omega]
 have Su:(bo xs).length=xs.length:=by unfold bo;simp
 refine b9 (λj ρ=>∃(f:List (Option Int))(o5 o6 o7:Option D),ρ= [some (aC w'),some (.lst (bo xs)),some (.lst (bo dy)),some (.bl true),some (aE f),o5,o6,o7]∧f.length=w'.length∧Pr w' f∧∀p d,f.getD p none=some d→d∈dy)
  ⟨List.replicate w'.length none,none,none,none,?_,qy,λp q d _ h=>?_,λp d h=>?_⟩ ?_ ?_
 ·rw [rp];rfl
 ·rw [cP,rT] at h
  split at h<;>cases h
 ·rw [cP,rT] at h
  split at h<;>cases h
 ·rintro j _ hj ⟨f,o5,o6,o7,rfl,fl,pr,hd⟩ A hA
  have rl:=fE g j;refine ⟨_,rfl,_,rfl,_,fD hj,?_⟩;refine hC (ρ:= [none,some (aE f)]) ag (λx=>oD (f.getD x none)) (row w' j) _ (λx hx Y hY=>⟨_,rfl,_,rfl,_,bM (by have:=g.rng _ _ hx;omega),hY⟩) rfl (small (by omega)) λaz=>?_
  have e1:((row w' j).map λx=>oD (f.getD x none))=((row w' j).map λx=>f.getD x none).map oD:=by rw [oj];rfl
  rw [e1];have tm:∀c:Option Int,c∈((row w' j).map λx=>f.getD x none)↔∃x∈row w' j,f.getD x none=c:=λc=>eO;generalize ((row w' j).map λx=>f.getD x none)=tk at tm;refine ⟨e7 _,?_⟩;refine ⟨_,rfl,?_⟩;refine j4 (λρ=>∃o,ρ= [o,some (aE tk)]) D.int (λd=>!decide (some d∈tk)) D.int dy _ [] _ (λx hx az hI Y Nn hY hN=>?_) ⟨none,rfl⟩ (by rw [qD,mB];exact small (by omega)) λaz hI=>?_
  ·obtain ⟨o,rfl⟩:=hI
   refine ⟨_,rfl,_,rfl,rfl,e7 _,_,rfl,?_⟩;have e:inD (.int x) (tk.map oD)=decide (some x∈tk):=oN (some x) tk;rw [if_pos rfl,e];exact bw (λh=>⟨_,rfl,hY _ ⟨_,rfl⟩ h⟩) λh=>hN _ ⟨_,rfl⟩ h
  rw [qC]
  have fm:∀d∈dy.filter (λd=>!decide (some d∈tk)),d∈dy∧some d∉tk:=λd h=>by
   obtain ⟨h1,h2⟩:=u5.mp h;exact ⟨h1,by simpa using h2⟩
  have fz:(dy.filter (λd=>!decide (some d∈tk))).length≤dy.length:=List.length_filter_le ..;have e2:(dy.filter (λd=>!decide (some d∈tk))).map D.int=((dy.filter (λd=>!decide (some d∈tk))).map some).map oD:=by rw [oj];rfl
  have e3:∀x:Option Int,x∈(dy.filter (λd=>!decide (some d∈tk))).map some++ [none]→∀d,x=some d→d∈dy∧some d∉tk:=λx hx d hd=>by
   subst hd
   rcases cu.mp hx with h|h
   ·obtain ⟨y,hy,e⟩:=eO.mp h
    cases e;exact fm d hy
   ·rw [cE] at h;cases h
  have e4:((dy.filter (λd=>!decide (some d∈tk))).map some++ [none]).length=(dy.filter (λd=>!decide (some d∈tk))).length+1:=by simp
  rw [e2];refine ⟨e7 _,?_⟩;refine ⟨_,rfl,rfl,cq (cq ?_)⟩;refine ⟨_,rfl,by show 1≤sizeLine;decide,_,rfl,by rw [aW,aW];exact small (by show _+1≤_;omega),?_⟩
  have e5:(((dy.filter (λd=>!decide (some d∈tk))).map some).map oD)++ [D.aT]=((dy.filter (λd=>!decide (some d∈tk))).map some++ [none]).map oD:=by rw [cM];rfl
  rw [e5];generalize (dy.filter (λd=>!decide (some d∈tk))).map some++ [none]=fr at e3 e4;have lf:(fr.map oD).length=fr.length:=aW _;have mq:=gE (xs.getD j 0) ((fr.map oD).length:Int) (by omega)
  obtain ⟨i,hi⟩:∃i:Nat,xs.getD j 0%((fr.map oD).length:Int)=(i:Int):=⟨(xs.getD j 0%((fr.map oD).length:Int)).toNat,by omega⟩
  have il:i<fr.length:=by omega
  have ai:cX (fr.map oD) (xs.getD j 0%((fr.map oD).length:Int))=some (oD (fr.getD i none)):=by rw [hi];exact bM il
  refine ⟨_,rfl,_,rfl,_,rfl,_,cR (by omega),_,rfl,(by show (0:Int)<((fr.map oD).length:Int);omega),_,ai,Cq _,_,rfl,_,rfl,_,j,rfl,by rw [aW,fl];exact sF hj,?_⟩
  have gm:fr.getD i none∈fr:=by
   rw [cP,eN il];exact og il
  have cc:=e3 _ gm;generalize fr.getD i none=c at cc;refine hA _ ⟨f.set j c,some (ag j),some (aE tk),some (aE fr),?_,by rw [eM,fl],pr.set g (by omega) λd hc q hq z=>?_,λp d h=>?_⟩
  ·have:aE (f.set j c)= .lst ((f.map oD).set j (oD c)):=by unfold aE;rw [qE]
   rw [this];rfl
  ·exact (cc d hc).2 ((tm _).mpr ⟨q,hq,z⟩)
  ·rw [j3 (by omega)] at h
   split at h
   ·exact (cc d h).1
   ·exact hd p d h
 ·rintro _ ⟨f,o5,o6,o7,rfl,fl,pr,hd⟩
  exact ⟨_,rfl,q f fl pr hd⟩
inductive Cr (w:W) (ok:Nat→Prop) (p:Nat):Nat→Prop
 |base:Cr w ok p p
 |step {a b:Nat}:Cr w ok p a→b∈row w a→ok b→Cr w ok p b
theorem Cr.lt{w:W}{ok:Nat→Prop}{p x:Nat}(g:Good w)(hp:p<w.length)(h:Cr w ok p x):x<w.length:=by
 cases h with
 |base=>exact hp
 |step _ h _=>exact g.rng _ _ h
theorem Cr.all{w:W}{ok:Nat→Prop}{p:Nat}{M:Nat→Prop}(h0:M p)(hs:∀a b,M a→b∈row w a→ok b→M b){x:Nat}(h:Cr w ok p x):M x:=by
 induction h with
 |base=>exact h0
 |step _ h2 h3 ih=>exact hs _ _ ih h2 h3
def lT(f:List (Option Int))(p:Nat)(d:Int)(q:Nat):Prop:=f.getD q none=f.getD p none∨f.getD q none=some d
theorem xo(f:List (Option Int))(p:Nat)(d:Int)(q:Nat):inD (oD (f.getD q none)) [oD (f.getD p none), .int d]=true↔lT f p d q:=by
 have:=oN (f.getD q none) [f.getD p none,some d]
 rw [show [oD (f.getD p none),D.int d]= [f.getD p none,some d].map oD from rfl,this,decide_eq_true_iff,cV,cE];exact Iff.rfl
def Ba:cp:=λds P=>∃(w:W)(f:List (Option Int))(p:Nat)(d:Int),ds= [.iO w,aE f,ag p, .int d]∧Good w∧w.length≤14∧p<w.length∧f.length=w.length∧∀L:List Nat,L.Pairwise (·<·)→(∀x,x∈L↔Cr w (lT f p d) p x)→P (ao L)
theorem yo{ms:List Int}{ns:List Nat}(pm:ms.Perm (ns.map λ(n:Nat)=>(n:Int)))(Bg:ms.Pairwise (·≤·))(nd:ns.Nodup):∃L:List Nat,ms.map D.int=L.map ag∧L.Pairwise (·<·)∧L.Perm ns:=by
 have e:∀m∈ms,((m.toNat:Nat):Int)=m:=λm hm=>by
  obtain ⟨n,_,rfl⟩:=eO.mp (pm.mem_iff.mp hm);simp
 have pn:(ms.map Int.toNat).Perm ns:=by
  have:=pm.map Int.toNat
  rw [oj] at this;rw [show (Int.toNat∘λ(n:Nat)=>(n:Int))=id from by funext n;simp] at this
  simpa using this
 refine ⟨ms.map Int.toNat,?_,?_,pn⟩
 ·rw [oj]
  exact List.map_congr_left λm hm=>by show D.int m=ag m.toNat;unfold ag;rw [e m hm]
 ·have uw:=pn.nodup_iff.mpr nd
  rw [xF,n9] at uw;rw [n9]
  exact (Bg.and uw).imp λ {a b} ⟨h1,h2⟩=>by
   have:a.toNat≤b.toNat:=Int.toNat_le_toNat h1
   omega
theorem wk:FnOk P w Z.K mg base bQ 2 T.d_chain.f T.d_chain.fd ["web","dyeing","p","dye"] (eE Z 1 Ba):=by
 have nd:=rN.nd;refine iE 1 T.d_chain.F rN [0,0,0,0,0,0,99,1,0] (by decide) (λds R h=>by obtain ⟨_,_,_,_,rfl,_⟩:=h;rfl) (λbg A outer s H E ds R hr h=>?_)
 have hu:=hr.units
 refine ⟨_,(ae (aG false 4 nd (xX T.W (aa 0) T.m_turns.m (qN T) (hr.mono (by decide)) T.m_turns.b))
   (ae (aG false 5 nd (fb (ab (aB (aa 1) (aa 2)) (ab (aa 3) af))))
   (ae (zF 6 nd rfl T.x_set)
   (ae (cZ 7 nd (fY (ab (aa 2) af)))
   (ae (mK PassesOwn.never (fe (aa 7)) (ae (w9 8 7 nd)
   (ah (aX (DW.dt (iW (aD we (aa 8) (aa 6) (by with_unfolding_all rfl)) (gx (aD qd (aB (aa 1) (aa 8)) (aa 5) (by with_unfolding_all rfl))))) (ae (zA false 6 (aa 8))
   (ah (BN 7 (aB (aa 4) (aa 8))))) aF))))
   (ah (zE (xY rfl rfl T.B.sorted (aa 6))))))))),?_⟩
 obtain ⟨w',f,p,d,rfl,g,cf,hp,fl,q⟩:=h;refine ⟨_,rfl,w',rfl,w',rfl,cf,trivial,?_⟩;refine ⟨_,rfl,_,rfl,_,bM (by omega),_,rfl,by show 2≤sizeLine;decide,trivial,?_⟩
 refine ⟨_,rfl,by show 1≤sizeLine;decide,?_⟩
 refine lb (λm ρ=>∃(ws ms:List Nat)(o8:Option D),ρ= [some (.iO w'),some (aE f),some (ag p),some (.int d),some (aC w'),some (.tup [oD (f.getD p none), .int d]),some (.set (cO w) (ms.map λ(n:Nat)=>(n:Int))),some (.lst (ws.map ag)),o8]∧ms.Nodup∧(∀x∈ms,Cr w' (lT f p d) p x)∧(∀z∈ws,z<w'.length∧(lT f p d z→Cr w' (lT f p d) p z))∧
  (p∈ms∨p∈ws)∧(∀x∈ms,∀y∈row w' x,lT f p d y→y∈ms∨y∈ws)∧m=ws.length+20*(20-ms.length)∧ws.length≤20+20*ms.length) 401 ?_ ?_
 ·exact ⟨[p],[],_,rfl,fW,(λx hx=>nomatch hx),λz hz=>by
   rw [cE] at hz;subst hz;exact ⟨hp,λ_=> .base⟩, .inr (by simp),(λx hx=>nomatch hx),rfl,by show 1≤20+0;omega⟩
 rintro m _ ⟨ws,ms,o8,rfl,nm,hm,hw,c1,c2,em,hz⟩;have RD:lT f p d p:= .inl rfl
 have ml:ms.length≤14:=by
  have:=aR (m:=List.range w'.length) nm λx hx=>cN.mpr ((hm x hx).lt g hp)
  rw [kA] at this;omega
 refine ⟨_,rfl,rfl,?_⟩
 rcases List.eq_nil_or_concat ws with rfl| ⟨mr,y,e⟩
 ·refine bX ?_
  refine ⟨_,rfl,_,rfl,by rw [aW];omega,λks pm Bg=>?_⟩
  obtain ⟨L,e1,e2,e3⟩:=yo pm Bg nm;rw [e1];refine q L e2 λx=>?_;rw [e3.mem_iff];refine ⟨hm x,λhx=>?_⟩;refine hx.all (M:=λx=>x∈ms) (c1.elim id λh=>nomatch h) λa b ha hb hk=>?_;exact (c2 a ha b hb hk).elim id λh=>nomatch h
 ·rw [List.concat_eq_append] at e
  subst e;rw [show rQ (.lst ((mr++ [y]).map ag))=true by simp [rQ]]
  refine cq ?_;rw [cK] at em hz;simp only [mv] at em hz;refine ⟨mr.map ag,ag y,by rw [cM];rfl,?_⟩
  have hy:=hw y (by simp)
  have Ed:∀x:Nat,decide ((x:Int)∈ms.map λ(n:Nat)=>(n:Int))=decide (x∈ms):=λx=>by
   refine decide_eq_decide.mpr ?_;rw [eO]
   exact ⟨λ⟨y,hy,e⟩=>by have:y=x:=by omega
                        rw [←this];exact hy,λh=>⟨x,h,rfl⟩⟩
  have keep:∀(F:DN→Prop),(y∈ms∨¬lT f p d y)→(∀ρ,(∃(ws ms:List Nat)(o8:Option D),ρ= [some (.iO w'),some (aE f),some (ag p),some (.int d),some (aC w'),some (.tup [oD (f.getD p none), .int d]),some (.set (cO w) (ms.map λ(n:Nat)=>(n:Int))),some (.lst (ws.map ag)),o8]∧ms.Nodup∧(∀x∈ms,Cr w' (lT f p d) p x)∧(∀z∈ws,z<w'.length∧(lT f p d z→Cr w' (lT f p d) p z))∧
    (p∈ms∨p∈ws)∧(∀x∈ms,∀y∈row w' x,lT f p d y→y∈ms∨y∈ws)∧m-1=ws.length+20*(20-ms.length)∧ws.length≤20+20*ms.length)→F ρ)→
    F [some (.iO w'),some (aE f),some (ag p),some (.int d),some (aC w'),some (.tup [oD (f.getD p none), .int d]),some (.set (cO w) (ms.map λ(n:Nat)=>(n:Int))),some (.lst (mr.map ag)),some (ag y)]:=λF hp hF=>by
   have drop:∀z,lT f p d z→(z∈ms∨z∈mr++ [y])→(z∈ms∨z∈mr):=λz n h=>by
    rcases h with h|h
    ·exact .inl h
    ·rcases cu.mp h with h|h
     ·exact .inr h
     ·rw [cE] at h
      subst h;exact hp.elim .inl λhp=>absurd n hp
   exact hF _ ⟨mr,ms,_,rfl,nm,hm,λz hz=>hw z (fV _ hz),drop p RD c1,λx hx y hy n=>drop y n (c2 x hx y hy n),by omega,by omega⟩
  refine ⟨_,rfl,_,rfl,_,_,_,rfl,rfl,_,rfl,?_⟩;refine (?_:if (if true=true then !decide ((y:Int)∈ms.map λ(n:Nat)=>(n:Int)) else _)=true then _ else _);rw [if_pos rfl,Ed];refine bw (λnq=>?_) (λnq=>?_)
  ·have nq:y∉ms:=by simpa using nq
   refine ⟨_,rfl,_,rfl,_,bM (by omega),_,rfl,qc _,e7 [f.getD p none,some d],_,rfl,?_⟩
   refine (?_:if (if false=true then _ else inD (oD (f.getD y none)) [oD (f.getD p none), .int d])=true then _ else _);rw [if_neg dP];refine bw (λok=>?_) (λok=>?_)
   ·have ok:=(xo f p d y).mp ok
    have cy:=hy.2 ok;have rl:=fE g y;refine ⟨_,rfl,_,rfl,y,rfl,by rw [aW];omega,?_⟩
    refine ⟨_,rfl,_,rfl,_,rfl,_,fD hy.1,_,rfl,(by rw [aW,aW];exact small (by omega)),?_⟩
    have e1:rh (ms.map λ(n:Nat)=>(n:Int)) (y:Int)=(ms++ [y]).map λ(n:Nat)=>(n:Int):=by
     unfold rh;rw [if_neg (by have:=Ed y;rw [decide_eq_false nq] at this;exact of_decide_eq_false this),cM];rfl
    refine ⟨(mr++row w' y).length+20*(20-(ms++ [y]).length),by rw [cK,cK,mv];omega,mr++row w' y,ms++ [y],some (ag y),?_,?_,?_,?_,?_,?_,rfl,?_⟩
    ·rw [←e1,show (mr++row w' y).map ag=mr.map ag++(row w' y).map ag from cM ..];rfl
    ·rw [jS]
     refine ⟨nm,by simp,λx hx y hy z=>nq ?_⟩
     rw [cE] at hy;rw [←hy,←z];exact hx
    ·intro x hx
     rcases cu.mp hx with hx|hx
     ·exact hm x hx
     ·rw [cE] at hx;rw [hx];exact cy
    ·intro z hz
     rcases cu.mp hz with hz|hz
     ·exact hw z (fV _ hz)
     ·exact ⟨g.rng _ _ hz,λh=> .step cy hz h⟩
    ·rcases c1 with h|h
     ·exact .inl (fV _ h)
     ·rcases cu.mp h with h|h
      ·exact .inr (fV _ h)
      ·exact .inl (dX _ h)
    ·intro x hx z hz n
     rcases cu.mp hx with hx|hx
     ·rcases c2 x hx z hz n with h|h
      ·exact .inl (fV _ h)
      ·rcases cu.mp h with h|h
       ·exact .inr (fV _ h)
       ·exact .inl (dX _ h)
     ·rw [cE] at hx
      subst hx;exact .inr (dX _ hz)
    ·rw [cK,cK,mv];omega
   ·exact keep _ (.inr λz=>by rw [(xo f p d y).mpr z] at ok;cases ok) λρ h=>⟨m-1,by omega,h⟩
  ·exact bX (keep _ (.inl (by simpa using nq)) λρ h=>⟨m-1,by omega,h⟩)
variable {P:Program} {w:World} {mg:Str→Option Value} {base:Heap} {Z:DC} (T:Txt Z mg)
theorem tx{c:b6}{t u:bP}{E:cv}{ρ:DN}(I:DN→Prop)(h:∀E':cv,(∀ρ,I ρ→E'.nx ρ)→pA c t kD E' ρ)(k:∀ρ,I ρ→u E ρ):qX (pA c t kD) u E ρ:=h _ k
theorem oI{t u:bP}{E:cv}{az:DN}(ρ:DN)(e:az=ρ)(h:qX t u E ρ):qX t u E az:=by rw [e];exact h
theorem si{a b:Option Int}{P:D→Prop}(h:P (.bl (decide (a=b)))):mF (oD a) (oD b) P:=by
 refine ⟨_,_,qr a,qr b,by cases a<;>simp [oP,PyData.depth],?_⟩
 rw [if_neg dP,show PyData.eqv (oP a) (oP b)=decide (a=b) by
  by_cases e:a=b
  ·rw [decide_eq_true e];exact (lF a b).mpr e
  ·rw [decide_eq_false e];exact mx.mpr λz=>e ((lF a b).mp z)]
 exact h
theorem E7{a b:Option Int}{P:D→Prop}(h:P (.bl (!decide (a=b)))):pB (oD a) (oD b) P:=by
 refine ⟨_,_,qr a,qr b,by cases a<;>simp [oP,PyData.depth],?_⟩
 rw [if_pos rfl,show PyData.eqv (oP a) (oP b)=decide (a=b) by
  by_cases e:a=b
  ·rw [decide_eq_true e];exact (lF a b).mpr e
  ·rw [decide_eq_false e];exact mx.mpr λz=>e ((lF a b).mp z)]
 exact h
def sw(a b:Int)(o:Option Int):Option Int:=if o=some a then some b else if o=some b then some a else o
def cA(f:List (Option Int))(l:List Nat)(a b:Int):List (Option Int):=(List.range f.length).map λp=>if p∈l then sw a b (f.getD p none) else f.getD p none
theorem bp(f:List (Option Int))(l:List Nat)(a b:Int):(cA f l a b).length=f.length:=by unfold cA;simp
theorem fg{f:List (Option Int)}{l:List Nat}{a b:Int}{p:Nat}(h:p<f.length):(cA f l a b).getD p none=if p∈l then sw a b (f.getD p none) else f.getD p none:=by
 unfold cA;rw [cP,cU,rV h];rfl
theorem lU{f g:List (Option Int)}(hl:f.length=g.length)(h:∀p,p<f.length→f.getD p none=g.getD p none):f=g:=by
 refine List.ext_getElem hl λi h1 h2=>?_
 have:=h i h1
 rw [cP,cP,eN h1,eN h2] at this;exact this
theorem t9(f:List (Option Int))(a b:Int):cA f [] a b=f:=lU (bp ..) λp hp=>by
 rw [fg (by rw [bp] at hp;exact hp),if_neg (by simp)]
theorem rb{f:List (Option Int)}{l:List Nat}{a b:Int}{p:Nat}(h:p<f.length):cA f (l++ [p]) a b=(cA f l a b).set p (sw a b (f.getD p none)):=by
 refine lU (by rw [bp,eM,bp]) λx hx=>?_
 rw [bp] at hx;rw [fg hx,j3 (by rw [bp];exact h),fg hx]
 by_cases e:x=p
 ·subst e;rw [if_pos (by simp),if_pos rfl]
 ·rw [if_neg e]
  by_cases z:x∈l
  ·rw [if_pos (fV _ z),if_pos z]
  ·rw [if_neg z,if_neg]
   intro y
   rcases cu.mp y with y|y
   ·exact z y
   ·exact e (by simpa using y)
theorem x9{f:List (Option Int)}{l:List Nat}{a b:Int}{p:Nat}(h:p<f.length)(ha:f.getD p none≠some a)(hb:f.getD p none≠some b):cA f (l++ [p]) a b=cA f l a b:=by
 rw [rb h];refine lU (by rw [eM]) λx hx=>?_
 rw [eM,bp] at hx;rw [j3 (by rw [bp];exact h)]
 have:sw a b (f.getD p none)=f.getD p none:=by unfold sw;rw [if_neg ha,if_neg hb]
 by_cases e:x=p
 ·subst e
  rw [if_pos rfl,fg hx,this];split<;>rfl
 ·rw [if_neg e]
theorem wI{a b:Int}(o:Option Int):sw b a (sw a b o)=o:=by
 unfold sw
 by_cases h1:o=some a
 ·subst h1
  rw [if_pos rfl,if_pos rfl]
 ·rw [if_neg h1]
  by_cases h2:o=some b
  ·subst h2
   rw [if_pos rfl]
   split
   ·next e=>exact e
   ·rw [if_pos rfl]
  ·rw [if_neg h2,if_neg h2,if_neg h1]
theorem Bi(a b:Int)(o:Option Int):sw a b o=none↔o=none:=by
 unfold sw
 split
 ·next e=>subst e;simp
 ·split
  ·next e=>subst e;simp
  ·exact Iff.rfl
def tD:cp:=λds P=>∃(f:List (Option Int))(l:List Nat)(a b:Int),ds= [aE f,ao l, .int a, .int b]∧f.length≤14∧l.length≤14∧(∀p∈l,p<f.length)∧P (aE (cA f l a b))
theorem qe:FnOk P w Z.K mg base bQ 1 T.d_exchanged.f T.d_exchanged.fd ["dyeing","points","one","other"] (eE Z 1 tD):=by
 have nd:=kv.nd;refine iE 1 T.d_exchanged.F kv [0,0,0,0,1,0] (by decide) (λds R h=>by obtain ⟨_,_,_,_,rfl,_⟩:=h;rfl) (λbg A outer s H E ds R hr h=>?_)
 have hu:=hr.units
 refine ⟨_,(ae (cZ 4 nd (lD rfl rfl T.B.list dD (aa 0)))
   (ae (cL rfl PassesOwn.never (bu (aa 1)) (aM 5 nd) (ah (aX (aD (eZ hu) (aB (aa 0) (aa 5)) (aa 2) (aN _)) (ah (gd false 4 (aa 5) (aa 3))) (ah (aX (aD (eZ hu) (aB (aa 0) (aa 5)) (aa 3) (aN _)) (ah (gd false 4 (aa 5) (aa 2))) aF)))))
   (ah (pJ 4)))),?_⟩
 obtain ⟨f,l,a,b,rfl,fl,ll,hl,q⟩:=h;refine ⟨_,rfl,?_⟩;refine ⟨_,rfl,?_⟩;refine bK (λj ρ=>∃o,ρ= [some (aE f),some (ao l),some (.int a),some (.int b),some (aE (cA f (l.take j) a b)),o]) ⟨none,?_⟩ ?_ ?_
 ·rw [List.take_zero,t9];rfl
 ·rintro j _ _ hd ⟨o,rfl⟩ A hA
  obtain ⟨p,hp,rfl⟩:=cj hd;have pl:=hl p (eJ hp);have tk:l.take (j+1)=l.take j++ [p]:=by rw [List.take_succ,hp];rfl
  have ix:ee ((cA f (l.take j) a b).map oD).length (p:Int)=some p:=by rw [aW,bp];exact sF pl
  have go:∀c:Int,sw a b (f.getD p none)=some c→A [some (aE f),some (ao l),some (.int a),some (.int b),some (.lst (((cA f (l.take j) a b).map oD).set p (.int c))),some (ag p)]:=λc hc=>by
   refine hA _ ⟨some (ag p),?_⟩;rw [tk,rb pl,hc];unfold aE;rw [qE];rfl
  refine ⟨_,rfl,_,rfl,_,bM pl,_,rfl,?_⟩;refine (?_:mF (oD (f.getD p none)) (oD (some a)) _);refine si ⟨_,rfl,bw (λh=>?_) λh=>?_⟩
  ·have h:=of_decide_eq_true h
   exact ⟨_,rfl,trivial,_,rfl,_,rfl,_,p,rfl,ix,go b (by unfold sw;rw [if_pos h])⟩
  ·have h:=of_decide_eq_false h
   refine ⟨_,rfl,_,rfl,_,bM pl,_,rfl,?_⟩;refine (?_:mF (oD (f.getD p none)) (oD (some b)) _);refine si ⟨_,rfl,bw (λh2=>?_) λh2=>?_⟩
   ·have h2:=of_decide_eq_true h2
    exact ⟨_,rfl,trivial,_,rfl,_,rfl,_,p,rfl,ix,go a (by unfold sw;rw [if_neg h,if_pos h2])⟩
   ·have h2:=of_decide_eq_false h2
    refine hA _ ⟨some (ag p),?_⟩;rw [tk,x9 pl h h2];rfl
 ·rintro _ ⟨o,rfl⟩
  rw [aW,List.take_length];exact ⟨_,rfl,q⟩
def uP:cp:=λds P=>∃(w:W)(f:List (Option Int)),ds= [aC w,aE f]∧Good w∧w.length≤14∧f.length=w.length∧Pr w f∧P (.bl true)
theorem kS:FnOk P w Z.K mg base bQ 1 T.d__law_is_dyeing.f T.d__law_is_dyeing.fd ["_law_turns","_law_dyeing_here"] (aU Z uP):=by
 have nd:=gN.nd;refine bc T.d__law_is_dyeing.F gN [0,0,0,0] (by decide) (λds R h=>by obtain ⟨_,_,rfl,_⟩:=h;rfl) (λbg A outer s H E ds R hr h=>?_)
 have hu:=hr.units
 refine ⟨_,(ae (cz rfl PassesOwn.never (bJ rfl T.B.range (ab (aH ba rfl T.B.len aZ (ab (aa 0) af)) af)) (aM 2 nd) (ah (cL rfl PassesOwn.never (bu (aB (aa 0) (aa 2))) (aM 3 nd) (ah (aX (DW.dt (iW (aD j6 (aB (aa 1) (aa 2)) bL (aN _)) (gx (aD (eZ hu) (aB (aa 1) (aa 2)) (aB (aa 1) (aa 3)) (aN _))))) (ah (aL eB)) aF)))))
   (ah (aL eB))),?_⟩
 obtain ⟨w',f,rfl,g,cf,fl,pr,q⟩:=h;have lw:(w'.map ao).length=w'.length:=aW _;refine ⟨_,rfl,⟨by omega,by show ((w'.map ao).length:Int)<2^62;omega⟩,?_⟩
 rw [show (((w'.map ao).length:Int)).toNat=w'.length by omega]
 refine b9 (λj ρ=>∃o1 o2,ρ= [some (aC w'),some (aE f),o1,o2]) ⟨_,_,rfl⟩ ?_ ?_
 ·rintro j _ hj ⟨o1,o2,rfl⟩ A hA
  refine ⟨_,rfl,_,rfl,_,fD hj,?_⟩;refine bK (λi ρ=>∃o2,ρ= [some (aC w'),some (aE f),some (ag j),o2]) ⟨_,rfl⟩ ?_ ?_
  ·rintro i _ _ hd ⟨o2,rfl⟩ A2 Jd
   obtain ⟨x,hx,rfl⟩:=cj hd;have xm:=eJ hx;have xl:=g.rng _ _ xm;refine ⟨_,rfl,_,rfl,_,bM (by omega),_,rfl,?_⟩
   cases hf:f.getD j none with
   |none=>exact bX (Jd _ ⟨_,rfl⟩)
   |some d=>
    refine cq ?_;refine ⟨_,rfl,_,rfl,_,bM (by omega),_,rfl,_,rfl,_,bM (by omega),?_⟩
    refine si ⟨_,rfl,rz (decide_eq_false λz=>?_) (Jd _ ⟨_,rfl⟩)⟩;rw [hf] at z;exact pr j x d xm hf z.symm
  ·rintro _ ⟨o2,rfl⟩
   exact hA _ ⟨_,_,rfl⟩
 ·rintro _ ⟨o1,o2,rfl⟩
  exact q
def Gw:cp:=λds P=>∃(f:List (Option Int))(l:List Nat)(a b:Int),ds= [aE f,ao l, .int a, .int b]∧f.length≤14∧P (aE (cA f l a b))
theorem lS:FnOk P w Z.K mg base bQ 1 T.d__law_due.f T.d__law_due.fd ["_law_dyeing_here","_law_points","_law_one","_law_other"] (aU Z Gw):=by
 have nd:=lZ.nd;refine bc T.d__law_due.F lZ [0,0,0,0,1,0,0] (by decide) (λds R h=>by obtain ⟨_,_,_,_,rfl,_⟩:=h;rfl) (λbg A outer s H E ds R hr h=>?_)
 have hu:=hr.units
 refine ⟨_,(ae (cZ 4 nd (fY af))
   (ae (cz rfl PassesOwn.never (bJ rfl T.B.range (ab (aH ba rfl T.B.len aZ (ab (aa 0) af)) af)) (aM 5 nd) (ae (aG false 6 nd (aB (aa 0) (aa 5)))
   (ae (aX (DW.dt (iW (aD qd (aa 5) (aa 1) (by with_unfolding_all rfl)) (gx (aD qd (aa 6) (fb (ab (aa 2) (ab (aa 3) af))) (by with_unfolding_all rfl))))) (ah (aG false 6 nd (aw oQ (aw bx (aa 2) (aa 3)) (aa 6)))) aF)
   (ah (g7 false 4 (aa 6))))))
   (ah (aL (aa 4))))),?_⟩
 obtain ⟨f,l,a,b,rfl,fl,q⟩:=h;have lf:(f.map oD).length=f.length:=aW _;refine ⟨by show 0≤sizeLine;decide,?_⟩
 refine ⟨_,rfl,⟨by omega,by show ((f.map oD).length:Int)<2^62;omega⟩,?_⟩
 rw [show (((f.map oD).length:Int)).toNat=f.length by omega]
 refine b9 (λj ρ=>∃o1 o2,ρ= [some (aE f),some (ao l),some (.int a),some (.int b),some (aE ((cA f l a b).take j)),o1,o2]) ⟨_,_,rfl⟩ ?_ ?_
 ·rintro j _ hj ⟨o1,o2,rfl⟩ A hA
  refine ⟨_,rfl,_,rfl,_,bM hj,trivial,?_⟩;have tl:((cA f l a b).take j).length≤14:=by rw [ji,bp];omega
  have st:(cA f l a b).take (j+1)=(cA f l a b).take j++ [if j∈l then sw a b (f.getD j none) else f.getD j none]:=by
   rw [List.take_succ,←fg hj,cP,eN (by rw [bp];exact hj)];rfl
  dsimp only;refine oI [some (aE f),some (ao l),some (.int a),some (.int b),some (aE ((cA f l a b).take j)),some (ag j),some (oD (f.getD j none))] rfl ?_;refine tx (λρ=>ρ= [some (aE f),some (ao l),some (.int a),some (.int b),some (aE ((cA f l a b).take j)),some (ag j),some (oD (if j∈l then sw a b (f.getD j none) else f.getD j none))]) (λE' hE=>?_) ?_
  ·refine ⟨_,rfl,_,rfl,rfl,cF _,_,rfl,?_⟩
   refine (?_:if (if false=true then _ else inD (ag j) (l.map ag))=true then _ else _);rw [if_neg dP,jE];refine bw (λh=>?_) λh=>bX (hE _ ?_)
   ·have h:=of_decide_eq_true h
    rw [if_pos h] at hE;refine ⟨_,rfl,_,rfl,_,rfl,by show 2≤sizeLine;decide,qc _,rfl,_,rfl,?_⟩
    have e:inD (oD (f.getD j none)) [.int a, .int b]=decide (f.getD j none∈ [some a,some b]):=oN _ [some a,some b];refine (?_:if (if false=true then _ else inD (oD (f.getD j none)) [.int a, .int b])=true then _ else _);rw [if_neg dP,e];refine bw (λh2=>?_) λh2=>hE _ ?_
    ·have h2:=of_decide_eq_true h2
     rw [cV,cE] at h2
     rcases h2 with h2|h2
     ·rw [h2] at hE ⊢
      refine ⟨_,rfl,_,rfl,_,rfl,trivial,hE _ ?_⟩
      have:sw a b (some a)=some (a+b-a):=by
       unfold sw;rw [if_pos rfl];exact congrArg some (by omega)
      rw [this];rfl
     ·rw [h2] at hE ⊢
      refine ⟨_,rfl,_,rfl,_,rfl,trivial,hE _ ?_⟩
      have:sw a b (some b)=some (a+b-b):=by
       unfold sw
       by_cases z:some b=some a
       ·rw [if_pos z]
        cases z;exact congrArg some (by omega)
       ·rw [if_neg z,if_pos rfl];exact congrArg some (by omega)
      rw [this];rfl
    ·have h2:=of_decide_eq_false h2
     rw [cV,cE,not_or] at h2;unfold sw;rw [if_neg h2.1,if_neg h2.2]
   ·have h:=of_decide_eq_false h
    rw [if_neg h]
  rintro _ rfl;refine ⟨_,rfl,_,rfl,trivial,b4 (by rw [aW];omega),hA _ ⟨some (ag j),some (oD (if j∈l then sw a b (f.getD j none) else f.getD j none)),?_⟩⟩
  rw [st];unfold aE;rw [cM];rfl
 ·rintro _ ⟨o1,o2,rfl⟩
  rw [show (cA f l a b).take f.length=cA f l a b by rw [←bp f l a b,List.take_length]]
  exact ⟨_,rfl,q⟩
theorem zj{f:List (Option Int)}{l:List Nat}{P:D→Prop}(h:P (.bl false)):pB (.lst [aE f,ao l]) (.lst [aE f,ao l]) P:=by
 have e:(D.lst [aE f,ao l]).py=some (.list [.list (f.map oP),gI l]):=by
  rw [D.py,fL,fL,fL,jI,j8];rfl
 refine ⟨_,_,e,e,?_,?_⟩
 ·have h1:=jx f
  have h2:=gZ l;simp only [PyData.depth,PyData.depthAll] at h1 ⊢;omega
 ·rw [if_pos rfl,show PyData.eqv (.list [.list (f.map oP),gI l]) (.list [.list (f.map oP),gI l])=true by
   rw [PyData.eqv,PyData.eqvAll,PyData.eqvAll,(mL f f).mpr rfl,(j0 l l).mpr rfl,PyData.eqvAll];rfl]
  exact h
def uN:cp:=λds P=>∃(f:List (Option Int))(l:List Nat)(a b:Int),ds= [aE f,ao l, .int a, .int b]∧f.length≤14∧l.length≤14∧(∀p∈l,p<f.length)∧P (aE (cA f l a b))
theorem cx:FnOk P w Z.K mg base bQ 2 T.d__law_exchange.f T.d__law_exchange.fd ["_law_dyeing_here","_law_points","_law_one","_law_other"] (eE Z 1 uN):=by
 have nd:=hV.nd;refine iE 1 T.d__law_exchange.F hV [0,0,0,0,2,1] (by decide) (λds R h=>by obtain ⟨_,_,_,_,rfl,_⟩:=h;rfl) (λbg A outer s H E ds R hr h=>?_)
 have hu:=hr.units
 refine ⟨_,(ae (cZ 4 nd (BJ (lD rfl rfl T.B.list dD (aa 0)) (lD rfl rfl T.B.list dD (aa 1))))
   (ae (pH 5 nd (mI T.d_exchanged (qe T) hr (ab (aB (aa 4) aq) (ab (aB (aa 4) aq) (ab (aa 2) (ab (aa 3) af))))))
   (ae (aX (DW.dt (vv (aD (ig hu) (aa 4) (bF (ab (aa 0) (ab (aa 1) af))) (aN _)) (sq (iV (fe (oJ "list" (aa 5) rfl T.B.isinstance rfl T.B.list dD)))))) (ah jY) aF)
   (ae (aX (aD (ig hu) (pE (NC:= ["_law_dye"]) (src:= [none]) rfl (lA (ar di)) trivial (bu (aa 5)) (λ_ _ _=>(bW 0 (show (["_law_dye"]:List Str).Nodup from by decide+kernel))) (λ_ _ _=>(jy (DW.dt (iW (aD j6 (aa 0) bL (aN _)) (gx (fe (oJ "bool" (aa 0) rfl T.B.isinstance rfl T.B.bool tP))))))) (λ_ _ _=>(aa 0))) (bF af) (aN _)) (ah jY) aF)
   (ae (vj 4 aq)
   (ah (pJ 5))))))),?_⟩
 obtain ⟨f,l,a,b,rfl,fl,ll,hl,q⟩:=h;refine ⟨_,rfl,_,rfl,?_⟩;refine ⟨_,rfl,_,rfl,_,rfl,_,rfl,_,rfl,_,rfl,f,l,a,b,rfl,fl,ll,hl,_,rfl,e7 _,?_⟩;dsimp only;refine oI [some (aE f),some (ao l),some (.int a),some (.int b),some (.lst [aE f,ao l]),some (aE (cA f l a b))] rfl ?_;refine ⟨_,rfl,_,rfl,_,rfl,by show 2≤sizeLine;decide,zj ⟨_,rfl,bX ⟨_,rfl,rfl,rfl,bX ?_⟩⟩⟩
 refine ⟨_,rfl,?_⟩;refine j4 (λρ=>∃o,ρ= [o]) oD (λ_=>false) oD (cA f l a b) _ [] _ (λx hx az hI Y Nn hY hN=>?_) ⟨none,rfl⟩ (by rw [qD,mB,bp];exact small (by omega)) λaz hI=>?_
 ·obtain ⟨o,rfl⟩:=hI
  refine ⟨_,rfl,?_⟩;cases x with
  |none=>exact ⟨_,rfl,hN _ ⟨_,rfl⟩ rfl⟩
  |some i=>exact ⟨_,rfl,cq ⟨_,rfl,rfl,rfl,hN _ ⟨_,rfl⟩ rfl⟩⟩
 rw [show (cA f l a b).filter (λ_=>false)= [] by simp]
 refine ⟨by show 0≤sizeLine;decide,?_⟩
 refine (?_:pB (ao []) (ao []) _);refine pC ⟨_,rfl,bX ?_⟩;exact ⟨_,rfl,_,0,_,rfl,rfl,rfl,_,rfl,q⟩
theorem Pr.cA{w:W}{f:List (Option Int)}{p:Nat}{a b:Int}{l:List Nat}(g:Good w)(pr:Pr w f)(fl:f.length=w.length)(ha:f.getD p none=some a)(hm:∀x,x∈l↔Cr w (lT f p b) p x):Pr w (cA f l a b):=λx y d hy hx=>by
 have xl:=bN hy;have yl:=g.rng _ _ hy;rw [fg (by omega)] at hx ⊢
 have two:∀z,z∈l→f.getD z none=some a∨f.getD z none=some b:=λz hz=>by
  cases (hm z).mp hz with
  |base=>exact .inl ha
  |step _ _ ok=>rw [←ha];exact ok
 have out:∀u v,u∈l→v∉l→v∈row w u→f.getD v none≠some a∧f.getD v none≠some b:=λu v hu hv JL=>by
  refine ⟨λz=>hv ?_,λz=>hv ?_⟩
  ·exact (hm v).mpr (.step ((hm u).mp hu) JL (.inl (z.trans ha.symm)))
  ·exact (hm v).mpr (.step ((hm u).mp hu) JL (.inr z))
 have L4:∀z,z∈l→sw a b (f.getD z none)=some a∨sw a b (f.getD z none)=some b:=λz hz=>by
  unfold sw
  rcases two z hz with h|h
  ·rw [if_pos h];exact .inr rfl
  ·by_cases e:f.getD z none=some a
   ·rw [if_pos e];exact .inr rfl
   ·rw [if_neg e,if_pos h];exact .inl rfl
 by_cases ix:x∈l
 ·rw [if_pos ix] at hx
  by_cases iy:y∈l
  ·rw [if_pos iy]
   intro z
   have:=congrArg (sw b a) (hx.trans z.symm)
   rw [wI,wI] at this
   rcases two x ix with h|h
   ·exact pr x y a hy h (by rw [←this];exact h)
   ·exact pr x y b hy h (by rw [←this];exact h)
  ·rw [if_neg iy]
   intro z;obtain ⟨h1,h2⟩:=out x y ix iy hy
   rcases L4 x ix with h|h
   ·rw [h] at hx;cases hx;exact h1 z
   ·rw [h] at hx;cases hx;exact h2 z
 ·rw [if_neg ix] at hx
  by_cases iy:y∈l
  ·rw [if_pos iy]
   intro z;obtain ⟨h1,h2⟩:=out y x iy ix (g.sym _ _ hy)
   rcases L4 y iy with h|h
   ·rw [h] at z;cases z;exact h1 hx
   ·rw [h] at z;cases z;exact h2 hx
  ·rw [if_neg iy]
   exact pr x y d hy hx
theorem BD{a b:Bool}{P:D→Prop}(h:P (.bl (!decide (a=b)))):pB (.bl a) (.bl b) P:=by
 refine ⟨.bool a, .bool b,rfl,rfl,by simp [PyData.depth],?_⟩
 rw [if_pos rfl,show PyData.eqv (.bool a) (.bool b)=decide (a=b) by cases a<;>cases b<;>rfl]
 exact h
def qR:cp:=λds P=>∃(w:W)(f:List (Option Int))(p:Nat)(a b:Int),ds= [aC w,aE f,ag p, .int b]∧Good w∧1≤w.length∧w.length≤14∧f.length=w.length∧p<w.length∧f.getD p none=some a∧Pr w f∧P (.bl true)
theorem jG:FnOk P w Z.K mg base bQ 6 T.d__law_chain_right.f T.d__law_chain_right.fd ["_law_turns","_law_dyeing_here","_law_p","_law_other"] (aU Z qR):=by
 have nd:=fF.nd;refine bc T.d__law_chain_right.F fF [0,0,0,0,0,0,0,0] (by decide) (λds R h=>by obtain ⟨_,_,_,_,_,rfl,_⟩:=h;rfl) (λbg A outer s H E ds R hr h=>?_)
 have hu:=hr.units
 refine ⟨_,(ae (aG false 4 nd (aB (aa 1) (aa 2)))
   (ae (aG false 5 nd (ay T.d_chain ((wk T).imp Bc) hr (ab (zv T.mkW (mX T) (hr.mono (by decide)) rfl T.mC T.m___init__b (ab (aa 0) af)) (ab (iU lz rfl T.B.list dD (ab (aa 1) af)) (ab (aa 2) (ab (aa 3) af))))))
   (ae (aG false 6 nd (ay T.d__law_exchange ((cx T).imp Bc) hr (ab (aa 1) (ab (aa 5) (ab (aa 4) (ab (aa 3) af))))))
   (ae (aX (DW.dt (vv (aD (ig hu) (aa 6) (ay T.d__law_due (lS T) hr (ab (aa 1) (ab (aa 5) (ab (aa 4) (ab (aa 3) af))))) (aN _)) (sq (iV (fe (ay T.d__law_is_dyeing (kS T) hr (ab (aa 0) (ab (aa 6) af)))))))) (ah (aL eB)) aF)
   (ae (cz rfl PassesOwn.never (bJ rfl T.B.range (ab (aH ba rfl T.B.len aZ (ab (aa 0) af)) af)) (aM 7 nd) (ah (aX (aD (ig hu) (sm kQ (aB (aa 6) (aa 7)) bL (aN _)) (sm kQ (aB (aa 1) (aa 7)) bL (aN _)) (aN _)) (ah (aL eB)) aF)))
   (ae (aX (aD (ig hu) (aB (aa 6) (aa 2)) (aa 3) (aN _)) (ah (aL eB)) aF)
   (ah (aL (sm (eZ hu) (ay T.d__law_exchange ((cx T).imp Bc) hr (ab (aa 6) (ab (tZ rfl rfl T.B.list rfl T.B.reversed (ab (aa 5) af)) (ab (aa 3) (ab (aa 4) af))))) (aa 1) (aN _)))))))))),?_⟩
 obtain ⟨w',f,p,a,b,rfl,g,h1,cf,fl,hp,FW,pr,q⟩:=h;have lw:(w'.map ao).length=w'.length:=aW _;have M4:cX (f.map oD) (p:Int)=some (.int a):=by rw [bM (by omega),FW];rfl
 refine ⟨_,rfl,_,rfl,_,M4,trivial,?_⟩;refine ⟨_,rfl,w',rfl,g,h1,cf,_,rfl,_,rfl,_,rfl,w',f,p,b,rfl,g,cf,hp,fl,λL L1 Lm=>⟨trivial,?_⟩⟩;have Ll:∀x∈L,x<w'.length:=λx hx=>((Lm x).mp hx).lt g hp
 have GV:L.length≤14:=by
  have:=aR (l:=L) (m:=List.range w'.length) (L1.imp λh=>cn h) λx hx=>cN.mpr (Ll x hx)
  rw [kA] at this;omega
 have pe:Pr w' (cA f L a b):=pr.cA g fl FW Lm;have el:=bp f L a b;refine ⟨_,rfl,_,rfl,_,rfl,_,rfl,f,L,a,b,rfl,by omega,GV,λx hx=>by rw [fl];exact Ll x hx,trivial,?_⟩
 refine ⟨_,rfl,_,rfl,_,rfl,_,rfl,_,rfl,f,L,a,b,rfl,by omega,mG ⟨_,rfl,rz (by simp) ?_⟩⟩
 refine ⟨_,rfl,_,rfl,w',cA f L a b,rfl,g,cf,by omega,pe,rfl,bX ?_⟩
 refine ⟨_,rfl,⟨by omega,by show ((w'.map ao).length:Int)<2^62;omega⟩,?_⟩
 rw [show (((w'.map ao).length:Int)).toNat=w'.length by omega]
 refine b9 (λj ρ=>∃o,ρ= [some (aC w'),some (aE f),some (ag p),some (.int b),some (.int a),some (ao L),some (aE (cA f L a b)),o]) ⟨_,rfl⟩ ?_ ?_
 ·rintro j _ hj ⟨o,rfl⟩ A hA
  refine ⟨_,rfl,_,rfl,_,bM (by omega),_,rfl,_,rfl,_,bM (by omega),?_⟩
  dsimp only [dC,wX];rw [if_neg dP,if_neg dP];refine BD ⟨_,rfl,rz ?_ (hA _ ⟨some (ag j),rfl⟩)⟩;have nn:∀o:Option Int,mO (oD o)=decide (o=none):=λo=>by cases o<;>rfl
  have:mO (oD ((cA f L a b).getD j none))=mO (oD (f.getD j none)):=by
   rw [nn,nn];refine decide_eq_decide.mpr ?_;rw [fg (by omega)]
   split
   ·exact Bi a b _
   ·exact Iff.rfl
  simpa using this
 ·rintro _ ⟨o,rfl⟩
  have pL:p∈L:=(Lm p).mpr .base
  have ep:(cA f L a b).getD p none=some b:=by
   rw [fg (by omega),if_pos pL,FW]
   unfold sw;rw [if_pos rfl]
  have M1:cX ((cA f L a b).map oD) (p:Int)=some (.int b):=by rw [bM (by omega),ep];rfl
  refine ⟨_,rfl,_,rfl,_,M1,_,rfl,zi ⟨_,rfl,rz (by simp) ?_⟩⟩
  have rv:cA (cA f L a b) L.reverse b a=f:=by
   refine lU (by rw [bp,bp]) λx hx=>?_
   rw [bp,bp] at hx;rw [fg (by rw [bp];exact hx),fg hx]
   by_cases z:x∈L
   ·rw [if_pos (rW.mpr z),if_pos z,wI]
   ·rw [if_neg (λh=>z (rW.mp h)),if_neg z]
  have er:(L.map ag).reverse=L.reverse.map ag:=(List.map_reverse ..).symm;refine ⟨_,rfl,_,rfl,_,rfl,_,rfl,cA f L a b,L.reverse,b,a,?_,by omega,by rw [xK];exact GV,λx hx=>by rw [bp,fl];exact Ll x (rW.mp hx),_,rfl,xS ?_⟩
  ·unfold ao;rw [List.map_reverse]
  ·rw [rv,decide_eq_true rfl];exact q
variable {P:Program} {w:World} {mg:Str→Option Value} {base:Heap} {Z:DC} (T:Txt Z mg)
theorem sI{g:dB}{tt:b6}{te:aQ}{α:Type}(I:DN→Prop)(enc f:α→D):∀(ys:List α)(az:DN)(acc:List D)(N:DN→List D→Prop),(∀y∈ys,∀az,I az→∀(Y:DN→D→Prop)(Nn:DN→Prop),(∀bB,I bB→Y bB (f y))→(∀bB,I bB→Nn bB)→g (enc y) az λbB=>tt bB λb=>if b=true then te bB (Y bB) else Nn bB)→
  I az→acc.length+ys.length≤sizeLine→(∀az zs,I az→List.Sublist zs ys→N az (acc++zs.map f))→jF g tt te (ys.map enc) az acc N
 | [],az,acc,N,_,hI,_,h=>by
  show N az acc;simpa using h az [] hI (List.Sublist.refl _)
 |y::ys,az,acc,N,hs,hI,hz,h=>by
  rw [dY] at hz;refine hs y (fQ ..) az hI (λbB d=>acc.length<sizeLine∧jF g tt te (ys.map enc) bB (acc++ [d]) N) (λbB=>jF g tt te (ys.map enc) bB acc N) (λbB h1=>⟨by omega,?_⟩) (λbB h1=>?_)
  ·refine sI I enc f ys _ (acc++ [f y]) N (λz hz=>hs z (fJ _ hz)) h1 (by simp;omega) λjV zs h2 h3=>?_
   rw [mw];exact h jV (y::zs) h2 (h3.cons_cons _)
  ·exact sI I enc f ys _ acc N (λz hz=>hs z (fJ _ hz)) h1 (by omega) λjV zs h2 h3=>h jV zs h2 (h3.cons _)
theorem Ct:FnOk P w Z.K mg base bQ 7 T.d_law.f T.d_law.fd ["_law_script"] (aU Z xB):=by
 have nd:=xx.nd;refine bc T.d_law.F xx [0,0,0,1,0,0,1,0,1,0] (by decide) (λds R h=>by obtain ⟨_,rfl,_⟩:=h;rfl) (λbg A outer s H E ds R hr h=>?_)
 have hu:=hr.units
 refine ⟨_,(ae (aG false 1 nd (ay T.d__law_web (sQ T) hr (ab (ay T.d__law_draws (gF T) hr (ab (aa 0) (ab aq (ab (aw bz (ay T.d__law_cell_at (bq T) hr (ab (aa 0) (ab aq af))) aq) af)))) af)))
   (ae (aG false 1 nd (ay T.d__law_named (qh T) hr (ab (aa 1) (ab (ay T.d__law_draws (gF T) hr (ab (aa 0) (ab aq (ab (aH ba rfl T.B.len aZ (ab (aa 1) af)) af)))) af))))
   (ae (aX (aD (eZ hu) (aw bz (aw fi (ay T.d__law_cell_at (bq T) hr (ab (aa 0) (ab aq af))) aq) aq) aq (aN _)) (ah (aG false 1 nd (ay T.d__law_twisted (mZ T) hr (ab (aa 1) (ab (ay T.d__law_cell_at (bq T) hr (ab (aa 0) (ab aq af))) af))))) aF)
   (ae (aG false 2 nd (ay T.d__law_dyes (qO T) hr (ab (ay T.d__law_cell_at (bq T) hr (ab (aa 0) (ab aq af))) af)))
   (ae (cZ 3 nd (mI T.d__law_dyeing (mW T) hr (ab (aa 1) (ab (ay T.d__law_draws (gF T) hr (ab (aa 0) (ab aq (ab (aH ba rfl T.B.len aZ (ab (aa 1) af)) af)))) (ab (aa 2) (ab eB af))))))
   (ae (aX (DW.dt (iW (aD kQ (aB (aa 3) aq) bL (aN _)) (gx (aD (eZ hu) (pE (NC:= ["_law_q","_law_dyeing_here","_law_dyes_here"]) (src:= [none,some 3,some 2]) rfl (lA (ar nj)) ⟨rfl,rfl,rfl,rfl,trivial⟩ (bu (aB (aa 1) aq)) (λ_ _ _=>(bW 0 (show (["_law_q","_law_dyeing_here","_law_dyes_here"]:List Str).Nodup from by decide+kernel))) (λ_ _ _=>(jy (aD (eZ hu) (aB (aa 1) (aa 0)) (aB (aa 2) aq) (aN _)))) (λ_ _ _=>(aa 0))) (bF af) (aN _))))) (ah (gd false 3 aq (aB (aa 2) aq))) aF)
   (ae (mJ 4 (NC:= ["_law_p","_law_script"]) (src:= [none,some 0]) rfl nd (lA (ar nj)) ⟨rfl,rfl,trivial⟩ (pF rfl T.B.range (ab (aH ba rfl T.B.len aZ (ab (aa 1) af)) af)) (λ_ _ _=>(bW 0 (show (["_law_p","_law_script"]:List Str).Nodup from by decide+kernel))) (λ_ _ _=>(jy (aD (eZ hu) (aw bz (aw fi (ay T.d__law_cell_at (bq T) hr (ab (aa 1) (ab aq af))) (aw Cs aq (aa 0))) aq) aq (aN _)))) (λ_ _ _=>(aa 0)))
   (ae (aX (aD (ig hu) (ay T.d__law_exchange ((cx T).imp Bc) hr (ab (aa 3) (ab (bF af) (ab (aB (aa 2) aq) (ab (aB (aa 2) aq) af))))) (aa 3) (aN _)) (ah (aL eB)) aF)
   (ae (cz rfl PassesOwn.never (vi rfl T.B.range (ab aq (ab (aH ba rfl T.B.len aZ (ab (aa 2) af)) af))) (aM 5 nd) (ae (pH 6 nd (mI T.d__law_exchange (cx T) hr (ab (aa 3) (ab (aa 4) (ab (aB (aa 2) aq) (ab (aB (aa 2) (aa 5)) af))))))
   (ah (aX (aD (ig hu) (aa 6) (ay T.d__law_due (lS T) hr (ab (aa 3) (ab (aa 4) (ab (aB (aa 2) aq) (ab (aB (aa 2) (aa 5)) af))))) (aN _)) (ah (aL eB)) aF))))
   (ae (cz rfl PassesOwn.never (bJ rfl T.B.range (ab (aH ba rfl T.B.len aZ (ab (aa 1) af)) af)) (aM 7 nd) (ae (pI 8 (NC:= ["_law_dye","_law_dyeing_here","_law_p"]) (src:= [none,some 3,some 7]) rfl nd (lA (ar nj)) ⟨rfl,rfl,rfl,rfl,trivial⟩ (bu (aa 2)) (λ_ _ _=>(bW 0 (show (["_law_dye","_law_dyeing_here","_law_p"]:List Str).Nodup from by decide+kernel))) (λ_ _ _=>(jy (aD (ig hu) (aa 0) (aB (aa 1) (aa 2)) (aN _)))) (λ_ _ _=>(aa 0)))
   (ae (aG true 9 nd (aB (aa 8) (aw bz (ay T.d__law_cell_at (bq T) hr (ab (aa 0) (ab (aw bx aq (aa 7)) af))) (aH ba rfl T.B.len aZ (ab (aa 8) af)))))
   (ah (aX (DW.dt (iW (aD j6 (aB (aa 3) (aa 7)) bL (aN _)) (gx (iV (fe (ay T.d__law_chain_right (jG T) hr (ab (aa 1) (ab (aa 3) (ab (aa 7) (ab (aa 9) af)))))))))) (ah (aL eB)) aF)))))
   (ah (aL eB)))))))))))),?_⟩
 obtain ⟨ns,rfl,vO,q⟩:=h;refine ⟨_,rfl,_,rfl,ns,2,rfl,λv=>⟨(by show (0:Int)<14;decide),?_⟩⟩
 obtain ⟨n,hn,Jc⟩:∃n:Nat,v%14=(n:Int)∧n≤13:=by
  have:=gE v 14 (by decide)
  exact ⟨(v%14).toNat,by omega,by omega⟩
 dsimp only;rw [show D.int (v%14)=ag n by unfold ag;rw [hn]]
 refine ⟨ns,1,n,rfl,by omega,by omega,λxs xl=>⟨xs,rfl,by omega,λw0 g0 l0=>⟨trivial,?_⟩⟩⟩
 have SW:(w0.map ao).length=w0.length:=aW _;refine ⟨_,rfl,_,rfl,_,rfl,ns,3,(w0.map ao).length,rfl,by omega,by omega,λys yl=>⟨w0,ys,rfl,g0,by omega,by omega,by omega,λw1 g1 l1=>⟨trivial,?_⟩⟩⟩
 dsimp only;refine oI [some (.e9 ns),some (aC w1),none,none,none,none,none,none,none,none] rfl ?_;refine tx (λρ=>∃w',ρ= [some (.e9 ns),some (aC w'),none,none,none,none,none,none,none,none]∧Good w'∧w'.length=n+1) (λE' hE=>?_) ?_
 ·refine ⟨_,rfl,ns,4,rfl,λv7=>⟨⟨by decide,by decide⟩,(by show (0:Int)<2;decide),BP ⟨_,rfl,bw (λ_=>?_) λ_=>?_⟩⟩⟩
  ·exact ⟨_,rfl,_,rfl,ns,6,rfl,λv7=>⟨w1,_,rfl,g1,by omega,by omega,λv gv lv=>⟨trivial,hE _ ⟨v,rfl,gv,by omega⟩⟩⟩⟩
  ·exact hE _ ⟨w1,rfl,g1,by omega⟩
 rintro _ ⟨w',rfl,g,wl⟩;have lw:(w'.map ao).length=w'.length:=aW _;refine ⟨_,rfl,ns,4,rfl,λv4=>⟨v4,rfl,λlow m m2 m4=>⟨trivial,?_⟩⟩⟩;have IK:(kF low m).length=m:=by unfold kF;simp
 have N1:(bo (kF low m)).length=m:=by unfold bo;rw [aW,IK]
 have D6:∀c:Int,∃d∈kF low m,d≠c:=λc=>by
  by_cases e:low+(0:Nat)-1=c
  ·exact ⟨low+(1:Nat)-1,eO.mpr ⟨1,cN.mpr (by omega),rfl⟩,by omega⟩
  ·exact ⟨low+(0:Nat)-1,eO.mpr ⟨0,cN.mpr (by omega),rfl⟩,e⟩
 generalize kF low m=dy at IK N1 D6;refine ⟨_,rfl,_,rfl,_,rfl,ns,5,(w'.map ao).length,rfl,by omega,by omega,λzs zl=>⟨_,rfl,w',zs,dy,rfl,g,by omega,by omega,by omega,λf0 BV Gm SM=>⟨_,rfl,?_⟩⟩⟩
 have n0:(0:Nat)<dy.length:=by omega
 dsimp only;refine oI [some (.e9 ns),some (aC w'),some (.lst (bo dy)),some (aE f0),none,none,none,none,none,none] rfl ?_;refine tx (λρ=>∃f,ρ= [some (.e9 ns),some (aC w'),some (.lst (bo dy)),some (aE f),none,none,none,none,none,none]∧f.length=w'.length∧Pr w' f) (λE' hE=>?_) ?_
 ·refine ⟨_,rfl,_,bM (p:=0) (by omega),?_⟩
  cases hf:f0.getD 0 none with
  |some c=>exact ⟨_,rfl,hE _ ⟨f0,rfl,BV,Gm⟩⟩
  |none=>
   refine ⟨_,rfl,cq ?_⟩;refine ⟨_,rfl,_,fD (p:=0) (by omega),?_⟩
   have rl:=fE g 0;refine j4 (λρ=>∃o,ρ= [o,some (aE f0),some (.lst (bo dy))]) ag (λx=>decide (f0.getD x none=some (dy.getD 0 0))) ag (row w' 0) _ [] _ (λx hx az hI Y Nn hY hN=>?_) ⟨none,rfl⟩ (by rw [qD,mB];exact small (by omega)) λaz hI=>?_
   ·obtain ⟨o,rfl⟩:=hI
    refine ⟨_,rfl,_,rfl,_,bM (by have:=g.rng _ _ hx;omega),_,rfl,_,cR (p:=0) n0,?_⟩
    refine (?_:mF (oD (f0.getD x none)) (oD (some (dy.getD 0 0))) _);exact si ⟨_,rfl,bw (λh=>⟨_,rfl,hY _ ⟨_,rfl⟩ h⟩) λh=>hN _ ⟨_,rfl⟩ h⟩
   rw [qC];refine ⟨by show 0≤sizeLine;decide,?_⟩
   refine (?_:mF (ao ((row w' 0).filter λx=>decide (f0.getD x none=some (dy.getD 0 0)))) (ao []) _);refine tW ⟨_,rfl,bw (λhb=>?_) λhb=>hE _ ⟨f0,rfl,BV,Gm⟩⟩;have hb:=of_decide_eq_true hb;refine ⟨_,rfl,_,cR (p:=0) n0,trivial,_,rfl,_,0,rfl,by rw [aW,BV];exact sF (p:=0) (by omega),?_⟩
   refine hE _ ⟨f0.set 0 (some (dy.getD 0 0)),?_,by rw [eM,BV],Gm.set g (by omega) λd hd x hx z=>?_⟩
   ·have:aE (f0.set 0 (some (dy.getD 0 0)))= .lst ((f0.map oD).set 0 (.int (dy.getD 0 0))):=by unfold aE;rw [qE];rfl
    rw [this];rfl
   ·have:x∈(row w' 0).filter λx=>decide (f0.getD x none=some (dy.getD 0 0)):=u5.mpr ⟨hx,decide_eq_true (z.trans hd.symm)⟩
    rw [hb] at this;cases this
 rintro _ ⟨f,rfl,fl,pr⟩;refine ⟨_,rfl,⟨by omega,by show ((w'.map ao).length:Int)<2^62;omega⟩,?_⟩
 rw [show (((w'.map ao).length:Int)).toNat=w'.length by omega,qs]
 refine sI (λρ=>∃o,ρ= [o,some (.e9 ns)]) ag ag (List.range w'.length) _ [] _ (λx hx az hI Y Nn hY hN=>?_) ⟨none,rfl⟩ (by rw [qD,mB,kA];exact small (by omega)) λaz l hI xg=>?_
 ·obtain ⟨o,rfl⟩:=hI
  have hx:=cN.mp hx;have pw:(1:Int)*2^((x:Int)).toNat=((2^x:Nat):Int):=by rw [Int.one_mul,qA,Int.natCast_pow];rfl
  have p1:0<2^x:=Nat.two_pow_pos x;have p2:2^x≤2^14:=Nat.pow_le_pow_right (by decide) (by omega)
  exact ⟨_,rfl,ns,6,rfl,λv=>⟨_,rfl,⟨by omega,by omega,by decide⟩,⟨by dsimp only;omega,by dsimp only;omega⟩,(by show (0:Int)<2;decide),BP ⟨_,rfl,bw (λ_=>⟨_,rfl,hY _ ⟨_,rfl⟩⟩) λ_=>hN _ ⟨_,rfl⟩⟩⟩⟩
 have ll:l.length≤14:=by have:=xg.length_le;rw [kA] at this;omega
 have hl:∀p∈l,p<f.length:=λp hp=>by rw [fl];exact cN.mp (xg.subset hp)
 rw [qC];refine ⟨trivial,?_⟩;have n1:(1:Nat)<dy.length:=by omega
 refine ⟨_,rfl,by show 0≤sizeLine;decide,_,rfl,_,cR (p:=0) n0,_,rfl,_,cR (p:=1) n1,f,[],_,_,rfl,by omega,by show 0≤14;omega,(λp hp=>nomatch hp),_,rfl,mG ⟨_,rfl,rz (by rw [t9];simp) ?_⟩⟩
 refine ⟨_,rfl,⟨by decide,by decide,by omega,by omega⟩,?_⟩
 refine ub (λj ρ=>∃o5 o6,ρ= [some (.e9 ns),some (aC w'),some (.lst (bo dy)),some (aE f),some (ao l),o5,o6,none,none,none]) ⟨_,_,rfl⟩ ?_ ?_
 ·rintro j _ hj ⟨o5,o6,rfl⟩ A hA
  have jl:1+j<dy.length:=by omega
  have Ho:cX (bo dy) (1+(j:Int))=some (.int (dy.getD (1+j) 0)):=by
   rw [show (1+(j:Int))=((1+j:Nat):Int) by omega]
   exact cR jl
  refine ⟨_,rfl,_,rfl,_,rfl,_,cR (p:=0) n0,_,rfl,_,rfl,_,Ho,f,l,_,_,rfl,by omega,ll,hl,_,rfl,e7 _,?_⟩
  exact ⟨_,rfl,_,rfl,_,rfl,_,rfl,_,cR (p:=0) n0,_,rfl,_,rfl,_,Ho,f,l,_,_,rfl,by omega,mG ⟨_,rfl,rz (by simp) (hA _ ⟨_,_,rfl⟩)⟩⟩
 rintro _ ⟨o5,o6,rfl⟩;refine ⟨_,rfl,⟨by omega,by show ((w'.map ao).length:Int)<2^62;omega⟩,?_⟩
 rw [show (((w'.map ao).length:Int)).toNat=w'.length by omega]
 refine b9 (λj ρ=>∃o7 o8 o9,ρ= [some (.e9 ns),some (aC w'),some (.lst (bo dy)),some (aE f),some (ao l),o5,o6,o7,o8,o9]) ⟨_,_,_,rfl⟩ ?_ ?_
 ·rintro p _ hp ⟨o7,o8,o9,rfl⟩ A hA
  refine ⟨_,rfl,?_⟩;refine j4 (λρ=>∃o,ρ= [o,some (aE f),some (ag p)]) D.int (λx=>!decide (some x=f.getD p none)) D.int dy _ [] _ (λx hx az hI Y Nn hY hN=>?_) ⟨none,rfl⟩ (by rw [qD,mB];exact small (by omega)) λaz hI=>?_
  ·obtain ⟨o,rfl⟩:=hI
   refine ⟨_,rfl,_,rfl,_,rfl,_,bM (by omega),?_⟩
   refine (?_:pB (oD (some x)) (oD (f.getD p none)) _);exact E7 ⟨_,rfl,bw (λh=>⟨_,rfl,hY _ ⟨_,rfl⟩ h⟩) λh=>hN _ ⟨_,rfl⟩ h⟩
  rw [qC]
  have op:0<(dy.filter λx=>!decide (some x=f.getD p none)).length:=by
   obtain ⟨d,hd,hn⟩:∃d∈dy,some d≠f.getD p none:=by
    cases hf:f.getD p none with
    |none=>exact ⟨dy[0],og n0,λz=>nomatch z⟩
    |some c=>
     obtain ⟨d,h1,h2⟩:=D6 c;exact ⟨d,h1,λz=>h2 (Option.some.inj z)⟩
   exact rU (u5.mpr ⟨hd,by simpa using hn⟩)
  generalize dy.filter (λx=>!decide (some x=f.getD p none))=ot at op;have lo:(ot.map D.int).length=ot.length:=aW _;refine ⟨List.all_eq_true.mpr λd hd=>by obtain ⟨x,_,rfl⟩:=eO.mp hd;rfl,?_⟩
  refine ⟨_,rfl,_,rfl,_,rfl,ns,7+p,rfl,λv9=>⟨_,rfl,(by show (0:Int)<((ot.map D.int).length:Int);omega),?_⟩⟩
  obtain ⟨i,hi,il⟩:∃i:Nat,v9%((ot.map D.int).length:Int)=(i:Int)∧i<ot.length:=by
   have:=gE v9 ((ot.map D.int).length:Int) (by omega)
   exact ⟨(v9%((ot.map D.int).length:Int)).toNat,by omega,by omega⟩
  have M3:cX (ot.map D.int) (v9%((ot.map D.int).length:Int))=some (.int (ot.getD i 0)):=by rw [hi];exact cR il
  refine ⟨_,M3,rfl,?_⟩;generalize ot.getD i 0=dd;refine ⟨_,rfl,_,rfl,_,bM (by omega),?_⟩
  cases hf:f.getD p none with
  |none=>exact ⟨_,rfl,hA _ ⟨_,_,_,rfl⟩⟩
  |some a=>exact ⟨_,rfl,cq ⟨_,rfl,_,rfl,_,rfl,_,rfl,w',f,p,a,dd,rfl,g,by omega,by omega,fl,hp,hf,pr,rfl,bX (hA _ ⟨_,_,_,rfl⟩)⟩⟩
 ·rintro _ ⟨o7,o8,o9,rfl⟩
  exact q
theorem all_mk{l:PySem.W.OpenLaw}{w:World}{K:PySem.W.Frag}{h:Heap}{mg:Str→Option Value}{fa C:Addr}{tk1:Tok}(X:K.In h)(G:h.Ns mainGlobals mg)(Oy:mg "law"=some (.ref fa))
  {d0:Addr} {Rt MR:Option Addr} {R0:Array (Option Value)} {Ri Qq NK RG Hq Np:Value}
  {d1:Addr} {Ru MS:Option Addr} {R1:Array (Option Value)} {Rj Qr NL AM Hr Nq:Value}
  {d2:Addr} {Rv MT:Option Addr} {C4:Array (Option Value)} {Rk Qs NM CP Hs Nr:Value}
  {d3:Addr} {Rw MU:Option Addr} {R3:Array (Option Value)} {Rl Qt NN RH Ht Nt:Value}
  {d4:Addr} {Rx MV:Option Addr} {R4:Array (Option Value)} {Rm Qu NO RJ Hu Nu:Value}
  {d5:Addr} {Ry MW:Option Addr} {R5:Array (Option Value)} {Rn Qv NP RK Hv Nv:Value}
  {d6:Addr} {Rz MX:Option Addr} {R6:Array (Option Value)} {Ro Qw NQ RL Hw Nw:Value}
  {d7:Addr} {RA MY:Option Addr} {R7:Array (Option Value)} {Rp Qx NR RM Hx Nx:Value}
  {d8:Addr} {RB MZ:Option Addr} {R8:Array (Option Value)} {Rq Qy NS RN Hy Ny:Value}
  {d9:Addr} {RC M0:Option Addr} {R9:Array (Option Value)} {Rr Qz NT RO Hz Nz:Value}
  {EE:Addr} {KN G7:Option Addr} {LJ:Array (Option Value)} {Ks J1 Ik Lc Dw HA:Value}
  {EF:Addr} {KO G9:Option Addr} {LK:Array (Option Value)} {Kt J2 Il Ld Dx HB:Value}
  {EG:Addr} {KP Ha:Option Addr} {LL:Array (Option Value)} {Ku J3 Im Le Dy HC:Value}
  {EH:Addr} {KQ Hb:Option Addr} {LM:Array (Option Value)} {Kv J4 Io Lf Dz HD:Value}
  {EI:Addr} {KR Hc:Option Addr} {LN:Array (Option Value)} {Kw J5 Ip Lg DB HE:Value}
  {EJ:Addr} {KS Hd:Option Addr} {LO:Array (Option Value)} {Kx J6 Iq Lh DD HF:Value}
  {EK:Addr} {KU He:Option Addr} {LP:Array (Option Value)} {Ky J7 Ir Li DH HG:Value}
  {EL:Addr} {KW Hf:Option Addr} {LQ:Array (Option Value)} {Kz J8 Iu Lj DJ HH:Value}
  {EM:Addr} {KY Hg:Option Addr} {LR:Array (Option Value)} {KA J9 Iv Lk DK HI:Value}
  {EN:Addr} {KZ Hh:Option Addr} {LS:Array (Option Value)} {KC Ka Iw Ln DL HJ:Value}
  {EO:Addr} {K0 Hi:Option Addr} {LU:Array (Option Value)} {KD Kb Iy Lo DM HK:Value}
  {ER:Addr} {K1 Hj:Option Addr} {LV:Array (Option Value)} {KG Kc Iz Lp DP HL:Value}
  {ES:Addr} {K2 Hk:Option Addr} {LW:Array (Option Value)} {KH Kd IA Lq DQ HM:Value}
  {ET:Addr} {K3 Hl:Option Addr} {LX:Array (Option Value)} {KI Ke IB Lr DR HN:Value}
  {EU:Addr} {K4 Hm:Option Addr} {LY:Array (Option Value)} {KJ Kf IC Ls DS HP:Value}
  {EV:Addr} {K5 Hn:Option Addr} {LZ:Array (Option Value)} {KL Kg ID Lu DU HQ:Value}
  {i0:Addr} {Pg Pw:Option Addr} {PX:Array (Option Value)} {Pa Pn PD PM JV P4:Value}
  {i1:Addr} {Ph Px:Option Addr} {PY:Array (Option Value)} {Pb Po PF PN JW P5:Value}
  {i2:Addr} {Pj Py:Option Addr} {PZ:Array (Option Value)} {Pc Pp PH PQ JX P6:Value}
  {i3:Addr} {Pk Pz:Option Addr} {P0:Array (Option Value)} {Pd Pq PJ PR JY P7:Value}
  {i4:Addr} {Pl PB:Option Addr} {P1:Array (Option Value)} {Pe Pt PK PU JZ P8:Value}
  {i5:Addr} {Pm PC:Option Addr} {P2:Array (Option Value)} {Pf Pu PL PV J0 P9:Value}
  (gC:PySem.W.nsIn K mainGlobals "Web"=some (some (.ref C)))
  (a0:eW K "chain" d0)
  (l0:cW K "chain" "chain" qt d0 Rt MR R0 Ri Qq NK RG Hq Np)
  (c0:PySem.W.codeIn K Hq "chain"=true)
  (k0:PySem.W.keepIn K (.ref d0)=true)
  (a1:eW K "exchanged" d1)
  (l1:cW K "exchanged" "exchanged" i8 d1 Ru MS R1 Rj Qr NL AM Hr Nq)
  (c1:PySem.W.codeIn K Hr "exchanged"=true)
  (k1:PySem.W.keepIn K (.ref d1)=true)
  (a2:eW K "is_among" d2)
  (l2:cW K "is_among" "is_among" jL d2 Rv MT C4 Rk Qs NM CP Hs Nr)
  (c2:PySem.W.codeIn K Hs "is_among"=true)
  (k2:PySem.W.keepIn K (.ref d2)=true)
  (a3:eW K "alien_fault" d3)
  (l3:cW K "alien_fault" "alien_fault" gJ d3 Rw MU R3 Rl Qt NN RH Ht Nt)
  (c3:PySem.W.codeIn K Ht "alien_fault"=true)
  (k3:PySem.W.keepIn K (.ref d3)=true)
  (a4:eW K "self_fault" d4)
  (l4:cW K "self_fault" "self_fault" iA d4 Rx MV R4 Rm Qu NO RJ Hu Nu)
  (c4:PySem.W.codeIn K Hu "self_fault"=true)
  (k4:PySem.W.keepIn K (.ref d4)=true)
  (a5:eW K "twice_fault" d5)
  (l5:cW K "twice_fault" "twice_fault" gM d5 Ry MW R5 Rn Qv NP RK Hv Nv)
  (c5:PySem.W.codeIn K Hv "twice_fault"=true)
  (k5:PySem.W.keepIn K (.ref d5)=true)
  (a6:eW K "lone_fault" d6)
  (l6:cW K "lone_fault" "lone_fault" iz d6 Rz MX R6 Ro Qw NQ RL Hw Nw)
  (c6:PySem.W.codeIn K Hw "lone_fault"=true)
  (k6:PySem.W.keepIn K (.ref d6)=true)
  (a7:eW K "reached_from_first" d7)
  (l7:cW K "reached_from_first" "reached_from_first" bO d7 RA MY R7 Rp Qx NR RM Hx Nx)
  (c7:PySem.W.codeIn K Hx "reached_from_first"=true)
  (k7:PySem.W.keepIn K (.ref d7)=true)
  (a8:eW K "apart_fault" d8)
  (l8:cW K "apart_fault" "apart_fault" gK d8 RB MZ R8 Rq Qy NS RN Hy Ny)
  (c8:PySem.W.codeIn K Hy "apart_fault"=true)
  (k8:PySem.W.keepIn K (.ref d8)=true)
  (a9:eW K "first_fault" d9)
  (l9:cW K "first_fault" "first_fault" gL d9 RC M0 R9 Rr Qz NT RO Hz Nz)
  (c9:PySem.W.codeIn K Hz "first_fault"=true)
  (k9:PySem.W.keepIn K (.ref d9)=true)
  (MB:eW K "_law_cell_at" EE)
  (QB:cW K "_law_cell_at" "_law_cell_at" fN EE KN G7 LJ Ks J1 Ik Lc Dw HA)
  (M5:PySem.W.codeIn K Dw "_law_cell_at"=true)
  (Qa:PySem.W.keepIn K (.ref EE)=true)
  (MC:eW K "_law_reserve" EF)
  (QC:cW K "_law_reserve" "_law_reserve" fO EF KO G9 LK Kt J2 Il Ld Dx HB)
  (M6:PySem.W.codeIn K Dx "_law_reserve"=true)
  (Qb:PySem.W.keepIn K (.ref EF)=true)
  (MD:eW K "_law_draws" EG)
  (QD:cW K "_law_draws" "_law_draws" iu EG KP Ha LL Ku J3 Im Le Dy HC)
  (M7:PySem.W.codeIn K Dy "_law_draws"=true)
  (Qc:PySem.W.keepIn K (.ref EG)=true)
  (ME:eW K "_law_lands" EH)
  (QE:cW K "_law_lands" "_law_lands" iw EH KQ Hb LM Kv J4 Io Lf Dz HD)
  (M8:PySem.W.codeIn K Dz "_law_lands"=true)
  (Qd:PySem.W.keepIn K (.ref EH)=true)
  (MF:eW K "_law_places" EI)
  (QF:cW K "_law_places" "_law_places" eG EI KR Hc LN Kw J5 Ip Lg DB HE)
  (M9:PySem.W.codeIn K DB "_law_places"=true)
  (Qe:PySem.W.keepIn K (.ref EI)=true)
  (MG:eW K "_law_grown" EJ)
  (QG:cW K "_law_grown" "_law_grown" fo EJ KS Hd LO Kx J6 Iq Lh DD HF)
  (Na:PySem.W.codeIn K DD "_law_grown"=true)
  (Qf:PySem.W.keepIn K (.ref EJ)=true)
  (MH:eW K "_law_web" EK)
  (QH:cW K "_law_web" "_law_web" jK EK KU He LP Ky J7 Ir Li DH HG)
  (Nb:PySem.W.codeIn K DH "_law_web"=true)
  (Qg:PySem.W.keepIn K (.ref EK)=true)
  (MI:eW K "_law_named" EL)
  (QI:cW K "_law_named" "_law_named" fq EL KW Hf LQ Kz J8 Iu Lj DJ HH)
  (Nc:PySem.W.codeIn K DJ "_law_named"=true)
  (Qh:PySem.W.keepIn K (.ref EL)=true)
  (MJ:eW K "_law_dyeing" EM)
  (QJ:cW K "_law_dyeing" "_law_dyeing" cT EM KY Hg LR KA J9 Iv Lk DK HI)
  (Nd:PySem.W.codeIn K DK "_law_dyeing"=true)
  (Qi:PySem.W.keepIn K (.ref EM)=true)
  (MK:eW K "_law_is_dyeing" EN)
  (QK:cW K "_law_is_dyeing" "_law_is_dyeing" eF EN KZ Hh LS KC Ka Iw Ln DL HJ)
  (Nf:PySem.W.codeIn K DL "_law_is_dyeing"=true)
  (Qj:PySem.W.keepIn K (.ref EN)=true)
  (ML:eW K "_law_twisted" EO)
  (QL:cW K "_law_twisted" "_law_twisted" dH EO K0 Hi LU KD Kb Iy Lo DM HK)
  (Ng:PySem.W.codeIn K DM "_law_twisted"=true)
  (Qk:PySem.W.keepIn K (.ref EO)=true)
  (MM:eW K "_law_dyes" ER)
  (QM:cW K "_law_dyes" "_law_dyes" gb ER K1 Hj LV KG Kc Iz Lp DP HL)
  (Nh:PySem.W.codeIn K DP "_law_dyes"=true)
  (Ql:PySem.W.keepIn K (.ref ER)=true)
  (MN:eW K "_law_due" ES)
  (QN:cW K "_law_due" "_law_due" jJ ES K2 Hk LW KH Kd IA Lq DQ HM)
  (Ni:PySem.W.codeIn K DQ "_law_due"=true)
  (Qm:PySem.W.keepIn K (.ref ES)=true)
  (MO:eW K "_law_exchange" ET)
  (QO:cW K "_law_exchange" "_law_exchange" di ET K3 Hl LX KI Ke IB Lr DR HN)
  (Nj:PySem.W.codeIn K DR "_law_exchange"=true)
  (Qn:PySem.W.keepIn K (.ref ET)=true)
  (MP:eW K "_law_chain_right" EU)
  (QP:cW K "_law_chain_right" "_law_chain_right" dA EU K4 Hm LY KJ Kf IC Ls DS HP)
  (Nk:PySem.W.codeIn K DS "_law_chain_right"=true)
  (Qo:PySem.W.keepIn K (.ref EU)=true)
  (GY:eW K "law" EV)
  (QQ:cW K "law" "law" nj EV K5 Hn LZ KL Kg ID Lu DU HQ)
  (Nl:PySem.W.codeIn K DU "law"=true)
  (Qp:PySem.W.keepIn K (.ref EV)=true)
  (m0:PySem.W.findIn K (.ref C) "__init__"=some (some (.ref i0)))
  (f0:PySem.W.isFn K (.ref i0)=true)
  (Q7:cW K "__init__" "Web.__init__" cD i0 Pg Pw PX Pa Pn PD PM JV P4)
  (QU:PySem.W.codeIn K JV "Web.__init__"=true)
  (Q0:PySem.W.keepIn K (.ref i0)=true)
  (m1:PySem.W.findIn K (.ref C) "many"=some (some (.ref i1)))
  (f1:PySem.W.isFn K (.ref i1)=true)
  (Q8:cW K "many" "Web.many" nQ i1 Ph Px PY Pb Po PF PN JW P5)
  (QV:PySem.W.codeIn K JW "Web.many"=true)
  (Q1:PySem.W.keepIn K (.ref i1)=true)
  (m2:PySem.W.findIn K (.ref C) "turns"=some (some (.ref i2)))
  (f2:PySem.W.isFn K (.ref i2)=true)
  (Q9:cW K "turns" "Web.turns" f9 i2 Pj Py PZ Pc Pp PH PQ JX P6)
  (QW:PySem.W.codeIn K JX "Web.turns"=true)
  (Q2:PySem.W.keepIn K (.ref i2)=true)
  (m3:PySem.W.findIn K (.ref C) "ties"=some (some (.ref i3)))
  (f3:PySem.W.isFn K (.ref i3)=true)
  (Ra:cW K "ties" "Web.ties" nU i3 Pk Pz P0 Pd Pq PJ PR JY P7)
  (QX:PySem.W.codeIn K JY "Web.ties"=true)
  (Q3:PySem.W.keepIn K (.ref i3)=true)
  (m4:PySem.W.findIn K (.ref C) "tied"=some (some (.ref i4)))
  (f4:PySem.W.isFn K (.ref i4)=true)
  (Rb:cW K "tied" "Web.tied" nS i4 Pl PB P1 Pe Pt PK PU JZ P8)
  (QY:PySem.W.codeIn K JZ "Web.tied"=true)
  (Q4:PySem.W.keepIn K (.ref i4)=true)
  (m5:PySem.W.findIn K (.ref C) "behind"=some (some (.ref i5)))
  (f5:PySem.W.isFn K (.ref i5)=true)
  (Rc:cW K "behind" "Web.behind" ko i5 Pm PC P2 Pf Pu PL PV J0 P9)
  (QZ:PySem.W.codeIn K J0 "Web.behind"=true)
  (Q5:PySem.W.keepIn K (.ref i5)=true)
  (RE:PySem.W.plainGet K C Str.empty=true)
  (BZ:PySem.W.hasDictIn K C=true)
  (RP:PySem.W.plainOver K C=true)
  (RY:PySem.W.findIn K (.ref C) "__setattr__"=some (some (.builtin "object.__setattr__")))
  (Q6:PySem.W.makesIn K C=true)
  (QA:PySem.W.keepIn K (.ref C)=true)
  (nR:PySem.W.findIn K (.ref C) "rows"=some none)
  (Nm:PySem.W.nsIn K mainGlobals "MOST_POINTS"=some (some (.int 14 tk1)))
  (Mq:PySem.W.nsIn K mainGlobals "len"=some none)
  (Dj:PySem.W.nsIn K mainGlobals "range"=some none)
  (Mr:PySem.W.nsIn K mainGlobals "max"=some none)
  (Ms:PySem.W.nsIn K mainGlobals "min"=some none)
  (uW:PySem.W.nsIn K mainGlobals "enumerate"=some none)
  (Mv:PySem.W.nsIn K mainGlobals "zip"=some none)
  (Bv:PySem.W.nsIn K mainGlobals "sorted"=some none)
  (Mo:PySem.W.nsIn K mainGlobals "all"=some none)
  (tJ:PySem.W.nsIn K mainGlobals "isinstance"=some none)
  (Mp:PySem.W.nsIn K mainGlobals "int"=some none)
  (GO:PySem.W.nsIn K mainGlobals "bool"=some none)
  (GP:PySem.W.nsIn K mainGlobals "list"=some none)
  (Dk:PySem.W.nsIn K mainGlobals "tuple"=some none)
  (Mu:PySem.W.nsIn K mainGlobals "sum"=some none)
  (wO:PySem.W.nsIn K mainGlobals "reversed"=some none)
  (Mt:PySem.W.nsIn K mainGlobals "set"=some none)
  :∃fd:FuncData,(∀(s:Shared)(v:Value),BindsTo s fd ⟨[v],[]⟩ [("_law_script",v)])∧∀base:Heap,K.In base→base.Ns mainGlobals mg→FnOk l.prog w K mg base bQ 40 fa fd ["_law_script"] (L2.mh K):=by
 have e:=Oy.symm.trans (PySem.W.mg_of X G GY);cases e;have E0:=lI (st:=cD) Q7 QU Q0;have e0:=E0.binds (ps:= ["self","turns"]) (λ_ _ _ _ _ _ _ hl=>by obtain ⟨_,_,rfl⟩:=L2.lP hl;rfl)
 let Z:DC:=⟨K,C⟩
 let T:Txt Z mg:=⟨⟨PySem.W.mg_none_of X G Mq,PySem.W.mg_none_of X G Dj,PySem.W.mg_none_of X G Mr,PySem.W.mg_none_of X G Ms,PySem.W.mg_none_of X G uW,PySem.W.mg_none_of X G Mv,PySem.W.mg_none_of X G Bv,PySem.W.mg_none_of X G Mo,PySem.W.mg_none_of X G tJ,PySem.W.mg_none_of X G Mp,PySem.W.mg_none_of X G GO,PySem.W.mg_none_of X G GP,PySem.W.mg_none_of X G Dk,PySem.W.mg_none_of X G Mu,PySem.W.mg_none_of X G wO⟩,PySem.W.mg_none_of X G Mt, .of X G a0 l0 c0 k0 (λ_ _ _ _ _ _ _ hl=>by obtain ⟨_,_,_,_,rfl⟩:=L2.rG hl;rfl), .of X G a1 l1 c1 k1 (λ_ _ _ _ _ _ _ hl=>by obtain ⟨_,_,_,_,rfl⟩:=L2.rG hl;rfl), .of X G a2 l2 c2 k2 (λ_ _ _ _ _ _ _ hl=>by obtain ⟨_,_,rfl⟩:=L2.lP hl;rfl), .of X G a3 l3 c3 k3 (λ_ _ _ _ _ _ _ hl=>by obtain ⟨_,rfl⟩:=L2.gD hl;rfl), .of X G a4 l4 c4 k4 (λ_ _ _ _ _ _ _ hl=>by obtain ⟨_,rfl⟩:=L2.gD hl;rfl), .of X G a5 l5 c5 k5 (λ_ _ _ _ _ _ _ hl=>by obtain ⟨_,rfl⟩:=L2.gD hl;rfl), .of X G a6 l6 c6 k6 (λ_ _ _ _ _ _ _ hl=>by obtain ⟨_,rfl⟩:=L2.gD hl;rfl), .of X G a7 l7 c7 k7 (λ_ _ _ _ _ _ _ hl=>by obtain ⟨_,rfl⟩:=L2.gD hl;rfl), .of X G a8 l8 c8 k8 (λ_ _ _ _ _ _ _ hl=>by obtain ⟨_,rfl⟩:=L2.gD hl;rfl), .of X G a9 l9 c9 k9 (λ_ _ _ _ _ _ _ hl=>by obtain ⟨_,rfl⟩:=L2.gD hl;rfl), .of X G MB QB M5 Qa (λ_ _ _ _ _ _ _ hl=>by obtain ⟨_,_,rfl⟩:=L2.lP hl;rfl), .of X G MC QC M6 Qb (λ_ _ _ _ _ _ _ hl=>by obtain ⟨_,_,rfl⟩:=L2.lP hl;rfl), .of X G MD QD M7 Qc (λ_ _ _ _ _ _ _ hl=>by obtain ⟨_,_,_,rfl⟩:=L2.um hl;rfl), .of X G ME QE M8 Qd (λ_ _ _ _ _ _ _ hl=>by obtain ⟨_,rfl⟩:=L2.gD hl;rfl), .of X G MF QF M9 Qe (λ_ _ _ _ _ _ _ hl=>by obtain ⟨_,_,rfl⟩:=L2.lP hl;rfl), .of X G MG QG Na Qf (λ_ _ _ _ _ _ _ hl=>by obtain ⟨_,_,_,rfl⟩:=L2.um hl;rfl), .of X G MH QH Nb Qg (λ_ _ _ _ _ _ _ hl=>by obtain ⟨_,rfl⟩:=L2.gD hl;rfl), .of X G MI QI Nc Qh (λ_ _ _ _ _ _ _ hl=>by obtain ⟨_,_,rfl⟩:=L2.lP hl;rfl), .of X G MJ QJ Nd Qi (λ_ _ _ _ _ _ _ hl=>by obtain ⟨_,_,_,_,rfl⟩:=L2.rG hl;rfl), .of X G MK QK Nf Qj (λ_ _ _ _ _ _ _ hl=>by obtain ⟨_,_,rfl⟩:=L2.lP hl;rfl), .of X G ML QL Ng Qk (λ_ _ _ _ _ _ _ hl=>by obtain ⟨_,_,rfl⟩:=L2.lP hl;rfl), .of X G MM QM Nh Ql (λ_ _ _ _ _ _ _ hl=>by obtain ⟨_,rfl⟩:=L2.gD hl;rfl), .of X G MN QN Ni Qm (λ_ _ _ _ _ _ _ hl=>by obtain ⟨_,_,_,_,rfl⟩:=L2.rG hl;rfl), .of X G MO QO Nj Qn (λ_ _ _ _ _ _ _ hl=>by obtain ⟨_,_,_,_,rfl⟩:=L2.rG hl;rfl), .of X G MP QP Nk Qo (λ_ _ _ _ _ _ _ hl=>by obtain ⟨_,_,_,_,rfl⟩:=L2.rG hl;rfl), .of X G GY QQ Nl Qp (λ_ _ _ _ _ _ _ hl=>by obtain ⟨_,rfl⟩:=L2.gD hl;rfl),⟨⟨RE,BZ,RP,RY⟩,nR⟩,PySem.W.mg_of X G gC,i0,_,E0,⟨Q6,m0,f0,QA⟩,e0, .of m1 f1 Q8 QV Q1 (λ_ _ _ _ _ _ _ hl=>by obtain ⟨_,rfl⟩:=L2.gD hl;rfl), .of m2 f2 Q9 QW Q2 (λ_ _ _ _ _ _ _ hl=>by obtain ⟨_,rfl⟩:=L2.gD hl;rfl), .of m3 f3 Ra QX Q3 (λ_ _ _ _ _ _ _ hl=>by obtain ⟨_,rfl⟩:=L2.gD hl;rfl), .of m4 f4 Rb QY Q4 (λ_ _ _ _ _ _ _ hl=>by obtain ⟨_,_,_,rfl⟩:=L2.um hl;rfl), .of m5 f5 Rc QZ Q5 (λ_ _ _ _ _ _ _ hl=>by obtain ⟨_,_,_,rfl⟩:=L2.um hl;rfl),⟨tk1,PySem.W.mg_of X G Nm⟩⟩
 exact ⟨_,λs v=> .of_eq rfl,λbase _ _=>(((Ct (P:=l.prog) (w:=w) (base:=base) T).mono (by decide)).imp (L2.Cg (Z:=Z)))⟩
theorem walk{l:PySem.W.OpenLaw}{q:Program}{loose:List Str}{XP:(Str→Option Value)→Heap→Prop}{YP:World→Heap→Prop}{d:DefRec}{K:Params→PySem.W.Frag}(hn:l.most=some 63)(vH:d.params.defaults= [])
  (hY:∀(w:World)(h:Heap),YP w h→(K w.params).In h)
  (F:∀(w:World)(mg:Str→Option Value)(fa:Addr)(h:Heap),(K w.params).In h→h.Ns mainGlobals mg→mg d.name=some (.ref fa)→
   ∃fd:FuncData,(∀(s:Shared)(u:Value),BindsTo s fd ⟨[u],[]⟩ [("_law_script",u)])∧∀base:Heap,(K w.params).In base→base.Ns mainGlobals mg→FnOk l.prog w (K w.params) mg base bQ 40 fa fd ["_law_script"] (mh (K w.params))):
  PySem.W.WalkO q loose XP YP l.row.toRowW d [] (λf vs=>PySem.call f vs):=L2.GL 40 (by decide) hn vH hY F
end yX
def PySem.W.Fast.tw5844837600593880493:Nat:=0
def PySem.W.Fast.tw3667928520766094968:Nat:=0
def PySem.W.Fast.tw9150134529936944968:Nat:=0
def PySem.W.Fast.tw9888213639435805449:Nat:=0
def PySem.W.Fast.tw2144109302687273311:Nat:=0
def PySem.W.Fast.tw4045678026532347787:Nat:=0
def PySem.W.Fast.tw7291219667206670285:Nat:=0
def PySem.W.Fast.tw16341290871883840583:Nat:=0
def PySem.W.Fast.tw8881008935153530289:Nat:=0
def PySem.W.Fast.tw9082671984277189772:Nat:=0
def PySem.W.Fast.tw2522644082718171936:Nat:=0
def PySem.W.Fast.tw4319833899074595863:Nat:=0
def PySem.W.Fast.tw4439371003208213739:Nat:=0
def PySem.W.Fast.tw3179695478616590923:Nat:=0
def PySem.W.Fast.tw17876508060182787928:Nat:=0
def PySem.W.Fast.tw18345820680686817138:Nat:=0
def PySem.W.Fast.tw13480471185399172562:Nat:=0
def PySem.W.Fast.tw4976329636925257073:Nat:=0
def PySem.W.Fast.tw2584481300697819059:Nat:=0
def PySem.W.Fast.tw4977066029932607136:Nat:=0
def PySem.W.Fast.tw16100192935758735792:Nat:=0
def PySem.W.Fast.tw3945398816353252148:Nat:=0
def PySem.W.Fast.tw14708909935546948758:Nat:=0
def PySem.W.Fast.tw6904845210871496096:Nat:=0
def PySem.W.Fast.tw7721405371839091664:Nat:=0
def PySem.W.Fast.tw14984792468741502571:Nat:=0
def PySem.W.Fast.tw4101147216202497935:Nat:=0
def PySem.W.Fast.tw14458149544941407491:Nat:=0
def PySem.W.Fast.tw16194681389596714077:Nat:=0
def PySem.W.Fast.tw13063060748597057946:Nat:=0
def PySem.W.Fast.tw8092060913270708362:Nat:=0
def PySem.W.Fast.tw15072604037797139272:Nat:=0
def PySem.W.Fast.tw9069737969450845583:Nat:=0
def PySem.W.Fast.tw6772278953184617602:Nat:=0
def PySem.W.Fast.tw17368813137810463114:Nat:=0
def PySem.W.Fast.tw2660309278728643157:Nat:=0
def PySem.W.Fast.tw9149501819455455190:Nat:=0
def PySem.W.Fast.tw1711394193743589833:Nat:=0
def PySem.W.Fast.tw16809296675158954748:Nat:=0
def PySem.W.Fast.tw15586431393725832784:Nat:=0
def PySem.W.Fast.tw2580546297011457841:Nat:=0
def PySem.W.Fast.tw14826758430742756756:Nat:=0
def PySem.W.Fast.tw9283554706990259605:Nat:=0
def PySem.W.Fast.tw517688024134072625:Nat:=0
def PySem.W.Fast.tw6462094987730899740:Nat:=0
def PySem.W.Fast.tw4806022856175637649:Nat:=0
def PySem.W.Fast.tw10108293173236780799:Nat:=0
def PySem.W.Fast.tw8493904923665266613:Nat:=0
def PySem.W.Fast.tw9781652790867186044:Nat:=0
def PySem.W.Fast.tw1145694035811787939:Nat:=0
def PySem.W.Fast.tw14695993311072148404:Nat:=0
def PySem.W.Fast.tw2642466353242438408:Nat:=0
def PySem.W.Fast.tw7781992526394253940:Nat:=0
def PySem.W.Fast.tw2134755120033265438:Nat:=0
def PySem.W.Fast.tw4407187070659135952:Nat:=0
def PySem.W.Fast.tw8695031601672805679:Nat:=0
def PySem.W.Fast.tw3187893886526565266:Nat:=0
def PySem.W.Fast.tw14497613782871314131:Nat:=0
def PySem.W.Fast.tw8561445691024287067:Nat:=0
def PySem.W.Fast.tw5719833906262921145:Nat:=0
def PySem.W.Fast.tw2226916319533970716:Nat:=0
def PySem.W.Fast.tw17224898487853894088:Nat:=0
def PySem.W.Fast.tw7080457798713769577:Nat:=0
def PySem.W.Fast.tw11755086219033700693:Nat:=0
def PySem.W.Fast.tw18268903396019584411:Nat:=0
def PySem.W.Fast.tw13629176490923472264:Nat:=0
def PySem.W.Fast.tw12753340234979014039:Nat:=0
def PySem.W.Fast.tw17218641405353071425:Nat:=0
def PySem.W.Fast.tw2399606236852676612:Nat:=0
def PySem.W.Fast.tw11893377045444306679:Nat:=0
def PySem.W.Fast.tw9458443608706838909:Nat:=0
def PySem.W.Fast.tw470164622282108825:Nat:=0
def PySem.W.Fast.tw9494086682865443734:Nat:=0
def PySem.W.Fast.tw7495583502266804163:Nat:=0
def PySem.W.Fast.tw2311387249443007483:Nat:=0
def PySem.W.Fast.tw13651966845571992331:Nat:=0
def PySem.W.Fast.tw2333336623921925854:Nat:=0
open PySem PySem.W PyProof.Rows
set_option maxRecDepth 100000 in
set_option maxHeartbeats 0 in
theorem PySem.Challenge.cw_mapdye_k52_whole_exchanged_chains_holds : PySem.Challenge.rw_mapdye_k52_whole_exchanged_chains.Holds := by
 w_on;o_law;k_head;(case hw=>w_witness2)
 k_fill
 refine yX.walk (l:=PySem.Challenge.rw_mapdye_k52_whole_exchanged_chains) rfl rfl (λw h Y=>PySem.W.kIn_of Y) ?F
 case F=>
  intro w mg fa h KX G vN
  refine' yX.all_mk KX G vN ?_ ?_ ?_ ?_ ?_ ?_ ?_ ?_ ?_ ?_ ?_ ?_ ?_ ?_ ?_ ?_ ?_ ?_ ?_ ?_ ?_ ?_ ?_ ?_ ?_ ?_ ?_ ?_ ?_ ?_ ?_ ?_ ?_ ?_ ?_ ?_ ?_ ?_ ?_ ?_ ?_ ?_ ?_ ?_ ?_ ?_ ?_ ?_ ?_ ?_ ?_ ?_ ?_ ?_ ?_ ?_ ?_ ?_ ?_ ?_ ?_ ?_ ?_ ?_ ?_ ?_ ?_ ?_ ?_ ?_ ?_ ?_ ?_ ?_ ?_ ?_ ?_ ?_ ?_ ?_ ?_ ?_ ?_ ?_ ?_ ?_ ?_ ?_ ?_ ?_ ?_ ?_ ?_ ?_ ?_ ?_ ?_ ?_ ?_ ?_ ?_ ?_ ?_ ?_ ?_ ?_ ?_ ?_ ?_ ?_ ?_ ?_ ?_ ?_ ?_ ?_ ?_ ?_ ?_ ?_ ?_ ?_ ?_ ?_ ?_ ?_ ?_ ?_ ?_ ?_ ?_ ?_ ?_ ?_ ?_ ?_ ?_ ?_ ?_ ?_ ?_ ?_ ?_ ?_ ?_ ?_ ?_ ?_ ?_ ?_ ?_ ?_ ?_ ?_ ?_ ?_ ?_ ?_ ?_
  all_goals (try (show _=_;k_is))
