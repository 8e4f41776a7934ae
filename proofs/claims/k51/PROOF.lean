import PyProof.Rows.All
import Wide.All
import OpenK.AllK
import Wide.FinOn
import Lean
import PyProof.EqAt
import PyProof.EqKinds
import PyProof.TupleCall
import KE.KSortTup
import PyProof.NeKinds
import PyProof.SetKind
import PyProof.SetRoads
import PyProof.SetNew
import PyProof.WalksS
import PyProof.CollectWalk
import PyProof.TupleKey
import PyProof.IsRules
import PyProof.InstEq
import KE.KRevIter
import PyProof.FitsBits
import PyProof.P3Eq
import PyProof.ListRange
import PyProof.MeetsSeq
import PyProof.DictRoadsH
import PySem.Challenge.RW_mapdye_k51_chains
set_option Elab.async false
set_option linter.all false
set_option maxRecDepth 100000
abbrev aV:= @List.length_map
abbrev cM:= @List.getD_eq_getElem?_getD
abbrev dU:= @List.getElem?_eq_some_iff
abbrev cu:= @List.length_append
abbrev eG:= @List.getElem?_eq_getElem
abbrev bC:= @Nat.le_refl
abbrev fg:= @List.mem_cons_of_mem
abbrev dM:= @List.size_toArray
abbrev eH:= @List.mem_cons_self
abbrev eI:= @List.mem_singleton
abbrev b8:= @Bool.false_ne_true
abbrev dg:= @List.mem_append_right
abbrev b9:= @List.mem_append
abbrev cT:= @List.getElem?_map
abbrev cE:= @List.map_append
abbrev ee:= @List.mem_of_getElem?
abbrev cq:= @List.mem_range
abbrev gS:= @List.getElem?_append_left
abbrev fc:= @List.mem_append_left
abbrev gw:= @List.getElem?_set_self
abbrev eo:= @Nat.lt_of_lt_of_le
abbrev fe:= @Array.length_toList
abbrev cf:= @Nat.ne_of_lt
abbrev cF:= @List.mem_cons
abbrev i8:= @List.getElem?_append_right
abbrev dW:= @List.length_cons
abbrev gx:= @List.getElem?_set_ne
abbrev gT:= @List.getElem?_eq_none
abbrev fG:= @List.length_set
abbrev gz:= @Nat.le_of_not_lt
abbrev dX:= @List.mem_map
abbrev fH:= @List.nodup_nil
abbrev ng:= @Array.getElem?_eq_getElem
abbrev lM:= @List.length_singleton
abbrev jD:= @List.nodup_append
abbrev jE:= @List.length_take
abbrev j9:= @List.length_range
abbrev gB:= @Nat.zero_le
abbrev jF:= @List.nodup_cons
abbrev pS:= @List.getElem?_cons_succ
abbrev i9:= @List.map_cons
abbrev lN:= @List.append_assoc
abbrev nh:= @List.replicate_succ
abbrev pT:= @List.length_replicate
abbrev pU:= @Array.getElem?_toList
abbrev lO:= @List.lookup_cons
abbrev qQ:= @List.idxOf_lt_length_iff
abbrev qR:= @List.getElem?_replicate
abbrev ni:= @List.getElem?_set
abbrev nj:= @List.pairwise_map
abbrev uo:= @Array.getD_eq_getD_getElem?
abbrev jG:= @Nat.le_trans
abbrev kc:= @Nat.lt_irrefl
abbrev uq:= @Array.getElem?_eq_some_iff
abbrev nu:= @Nat.mod_eq_of_lt
abbrev ur:= @List.set_eq_of_length_le
abbrev pV:= @List.flatten_cons
abbrev pW:= @Bool.eq_false_iff
abbrev pX:= @Bool.and_eq_true
abbrev pY:= @List.getElem_mem
abbrev uu:= @List.length_pos_of_mem
abbrev lP:= @List.map_map
abbrev pZ:= @List.append_nil
abbrev wK:= @List.nodup_iff_pairwise_ne
abbrev qS:= @Int.toNat_natCast
abbrev uv:= @List.getElem?_of_mem
abbrev nv:= @Nat.zero_add
abbrev ny:= @Nat.sub_self
abbrev wL:= @List.getElem?_take_of_lt
abbrev uw:= @List.getElem?_range
abbrev qT:= @List.nil_append
abbrev qU:= @List.length_nil
abbrev ux:= @List.getElem_idxOf
abbrev wM:= @Array.getElem?_eq_none
abbrev wN:= @List.drop_eq_nil_of_le
abbrev wO:= @List.take_append_drop
abbrev nz:= @Nat.mod_lt
abbrev qV:= @List.map_take
abbrev uy:= @List.mem_filter
abbrev AF:= @List.drop_eq_getElem_cons
abbrev qW:= @Nat.le_of_lt
abbrev qX:= @List.map_set
abbrev wQ:= @Bool.false_eq_true
namespace L2
open PySem PySem.Spec PyProof.Rows
abbrev Key:=Sum Int Str
def zu:Key→Value→Bool
 | .inl k,v=>Value.isInt k v
 | .inr x,v=>Value.isStrOf x v
def Je(w:World):Key→Int
 | .inl k=>hashInt k
 | .inr x=>hashStr w x
theorem bG:∀{k:Key}{v:Value},zu k v=true→(∃i t,k=Sum.inl i∧v=Value.int i t)∨(∃x t,k=Sum.inr x∧v=Value.str x t)
 | .inl i,v,h=>by
  obtain ⟨t,e⟩:=Value.isInt_shape (k:=i) (v:=v) h;exact .inl ⟨i,t,rfl,e⟩
 | .inr x,v,h=>by
  obtain ⟨t,e⟩:=Value.isStrOf_shape (x:=x) (v:=v) h;exact .inr ⟨x,t,rfl,e⟩
theorem Bg(a b:Int):decide ((Sum.inl a:Key)=Sum.inl b)=(a==b):=by
 by_cases e:a=b
 ·subst e;simp
 ·have h:¬(Sum.inl a:Key)=Sum.inl b:=λq=>e (Sum.inl.inj q)
  rw [decide_eq_false h];exact (beq_eq_false_iff_ne.mpr e).symm
theorem Bj(a b:Str):decide ((Sum.inr a:Key)=Sum.inr b)=decide (a=b):=by
 by_cases e:a=b
 ·subst e;simp
 ·have h:¬(Sum.inr a:Key)=Sum.inr b:=λq=>e (Sum.inr.inj q)
  rw [decide_eq_false h,decide_eq_false e]
theorem Bh(a:Int)(b:Str):decide ((Sum.inl a:Key)=Sum.inr b)=false:=decide_eq_false (λq=>nomatch q)
theorem Bi(a:Str)(b:Int):decide ((Sum.inr a:Key)=Sum.inl b)=false:=decide_eq_false (λq=>nomatch q)
def o9(prog:Program)(w:World):PySem.KeyKind prog w Key where
 is:=zu
 hash:=Je w
 inj:=λv a b ha hb=>by
  rcases bG ha with ⟨i,t,rfl,rfl⟩ | ⟨x,t,rfl,rfl⟩
  ·rcases bG hb with ⟨j,u,rfl,e⟩ | ⟨y,u,rfl,e⟩
   ·injection e with e1 _;rw [e1]
   ·exact nomatch e
  ·rcases bG hb with ⟨j,u,rfl,e⟩ | ⟨y,u,rfl,e⟩
   ·exact nomatch e
   ·injection e with e1 _;rw [e1]
 byValue:=λk v h=>by
  rcases bG h with ⟨i,t,rfl,rfl⟩ | ⟨x,t,rfl,rfl⟩<;>rfl
 pyHash:=λhv h=>by
  rcases bG hv with ⟨i,t,rfl,rfl⟩ | ⟨x,t,rfl,rfl⟩
  ·exact wpAny_pyHash_int h
  ·exact wpAny_pyHash_str h
 eqBool:=λhu hv h=>by
  rcases bG hu with ⟨i,t,rfl,rfl⟩ | ⟨x,t,rfl,rfl⟩
  ·rcases bG hv with ⟨j,u,rfl,rfl⟩ | ⟨y,u,rfl,rfl⟩
   ·rw [Bg] at h;exact wpAny_eqBool_int h
   ·rw [Bh] at h;exact SeqAt.EqAt.int_str i t y u _ _ _ _ h
  ·rcases bG hv with ⟨j,u,rfl,rfl⟩ | ⟨y,u,rfl,rfl⟩
   ·rw [Bi] at h;exact SeqAt.EqAt.str_int x t j u _ _ _ _ h
   ·rw [Bj] at h;exact wpAny_eqBool_str h
 «strs»:=λk x t v h=>by
  rcases bG h with ⟨i,u,rfl,e⟩ | ⟨y,u,rfl,e⟩
  ·exact nomatch e
  ·injection e with e1 _
   subst e1;cases v<;>rfl
inductive V where
 |aN|bl (b:Bool) |int (i:Int) |str (x:Str) |wX (b:Array UInt8) |uN (b:UInt64) |ref (a:Addr) |ty (n:String)
 deriving DecidableEq
def RelV:V→Value→Prop
 | .aN,u=>u=Value.none
 | .bl b,u=>u=Value.bool b
 | .int i,u=>∃t,u=Value.int i t
 | .str x,u=>∃t,u=Value.str x t
 | .wX b,u=>∃t,u=Value.bytes b t
 | .uN b,u=>∃t,u=Value.float b t
 | .ref a,u=>u=Value.ref a
 | .ty n,u=>u=Value.type n
abbrev Vals:List V→List Value→Prop:=Paired RelV
theorem Vals.length{xs:List V}{us:List Value}(r:Vals xs us):xs.length=us.length:=Paired.length r
theorem Vals.get:∀{xs:List V}{us:List Value}{i:Nat}{x:V},Vals xs us→xs[i]? =some x→∃u,us[i]? =some u∧RelV x u
 |_,_,_,_, .nil,e=>by simp at e
 |_,_,0,_, .cons r _,e=>by simp at e;subst e;exact ⟨_,rfl,r⟩
 |_,_,i+1,x, .cons _ t,e=>by
  obtain ⟨u,h1,h2⟩:=Vals.get (i:=i) (x:=x) t (by simpa using e)
  exact ⟨u,by simpa using h1,h2⟩
theorem Vals.set{x:V}{u:Value}(r:RelV x u):∀{xs:List V}{us:List Value}(i:Nat),Vals xs us→Vals (xs.set i x) (us.set i u)
 |_,_,_, .nil=> .nil
 |_,_,0, .cons _ t=> .cons r t
 |_,_,i+1, .cons q t=> .cons q (Vals.set r i t)
theorem Vals.append:∀{xs ys:List V}{us ws:List Value},Vals xs us→Vals ys ws→Vals (xs++ys) (us++ws)
 |_,_,_,_, .nil,s=>s
 |_,_,_,_, .cons r t,s=> .cons r (Vals.append t s)
theorem Vals.take:∀{xs:List V}{us:List Value}(n:Nat),Vals xs us→Vals (xs.take n) (us.take n)
 |_,_,0,_=> .nil
 |_,_,_+1, .nil=> .nil
 |_,_,n+1, .cons r t=> .cons r (Vals.take n t)
theorem Vals.drop:∀{xs:List V}{us:List Value}(n:Nat),Vals xs us→Vals (xs.drop n) (us.drop n)
 |_,_,0,r=>r
 |_,_,_+1, .nil=> .nil
 |_,_,n+1, .cons _ t=>Vals.drop n t
def jY:Option V→Option Value→Prop
 |some v,some u=>RelV v u
 |none,none=>True
 |_,_=>False
def KV{κ:Type}:List (κ×V)→List (κ×Value)→Prop:=Paired λ(p:κ×V)(q:κ×Value)=>p.1=q.1∧RelV p.2 q.2
def kV:Key→V
 | .inl i=> .int i
 | .inr x=> .str x
inductive HO where
 |lst (xs:List V)
 |tup (xs:List V)
 |dK (ck:List (Key×V)) |dT (ck:List (List Key×V))
 |set (S:Int→Bool) (n:Nat)
 |ins (C dx:Addr) (fs:List (Str×V))
 |own (x:Addr)
 |xd (fs:List (Str×V))
 |met (f x:Addr)
 |rng (lo hi:Int)
 |kS (o:Obj) (u:HO)
 |vO (ps:Array Value)
 |ext (φ:Heap→Prop)
abbrev Hp:=Addr→Option HO
def upd(H:Hp)(a:Addr)(o:HO):Hp:=λb=>if b=a then some o else H b
theorem aw{H:Hp}{a:Addr}{o:HO}:upd H a o a=some o:=by unfold upd;rw [if_pos rfl]
theorem ay{H:Hp}{a b:Addr}{o:HO}(h:b≠a):upd H a o b=H b:=by unfold upd;rw [if_neg h]
theorem aM{H:Hp}{a b:Addr}{o:HO}(h:H a=some o)(h':H b=none):a≠b:=by
 intro e;subst e;rw [h] at h';cases h'
section
variable (P:Program) (w:World)
def bL(H:Hp)(h:Heap)(a:Addr):HO→Prop
 | .lst xs=>xs.length≤sizeLine∧∃(its:List Value)(n:Nat),Vals xs its∧h.get? a=some {cls:= .type "list",data:= .seq its.toArray n}
 | .tup xs=>xs.length≤sizeLine∧∃its:List Value,Vals xs its∧IsTup h a its.toArray
 | .dK ck=>ck.length≤sizeLine∧(a==sysModules)=false∧∃vs,KV ck vs∧h.DictOf (o9 P w) a vs
 | .dT ck=>ck.length≤sizeLine∧(a==sysModules)=false∧∃xs:List (List Key×Addr×Value),
   Paired (λ(p:List Key×V)(q:List Key×Addr×Value)=>p.1=q.1∧H q.2.1=some (.tup (p.1.map kV))∧RelV p.2 q.2.2) ck xs∧
   ∃o es ep,h.get? a=some o∧o.ExactDict∧o.data= .dict es ep∧es.toList=xs.map (entryOfKey (tupleKind (o9 P w)))∧(xs.map (·.1)).Nodup
 | .set S n=>h.SetOf (intKind P w) a S n
 | .ins C dx fs=>H dx=some (.own a)∧fs.length≤1000∧dx≠a∧h.get? a=some (PySem.W.instObj C dx)∧
   ∃mA,h.Ns1 dx mA∧(∀f,jY (fs.lookup f) (mA f))∧PySem.Within mA (fs.map (·.1))
 | .own _=>∃o,h.get? a=some o
 | .xd fs=>∃mA,h.Ns1 a mA∧∀f,jY (fs.lookup f) (mA f)
 | .rng lo hi=>∃t u v,h.get? a=some {cls:= .type "range",data:= .fields #[.int lo t, .int hi u, .int 1 v]}
 | .kS o u=>h.get? a=some o∧bL H h a u
 | .vO ps=>h.get? a=some {cls:= .none,data:= .fields ps}
 | .met f x=>h.get? a=some (PySem.W.methodObj (.ref f) (.ref x))
 | .ext φ=>φ h∧(∃o,h.get? a=some o)∧∀h1 h2:Heap,φ h1→(∀o,h1.get? a=some o→h2.get? a=some o)→φ h2
def fI(H:Hp)(h:Heap):Prop:=∀a o,H a=some o→bL P w H h a o
end
section
variable {P:Program} {w:World} {H H':Hp} {h h':Heap} {a:Addr} {o:HO}
theorem bL.lt(x:bL P w H h a o):a<h.objs.size:=by
 cases o with
 |lst xs=>obtain ⟨_,_,_,_,e⟩:=x;exact Heap.lt_size e
 |tup xs=>obtain ⟨_,_,_,p⟩:=x;exact p.lt
 |dK ck=>obtain ⟨_,_,_,_,o,_,_,e,_⟩:=x;exact Heap.lt_size e
 |dT ck=>obtain ⟨_,_,_,_,o,_,_,e,_⟩:=x;exact Heap.lt_size e
 |set S n=>obtain ⟨o,_,_,_,e,_⟩:=x;exact Heap.lt_size e
 |ins C dx fs=>obtain ⟨_,_,_,e,_⟩:=x;exact Heap.lt_size e
 |own y=>obtain ⟨_,e⟩:=x;exact Heap.lt_size e
 |xd fs=>obtain ⟨_,⟨_,_,_,e,_⟩,_⟩:=x;exact Heap.lt_size e
 |rng lo hi=>obtain ⟨_,_,_,e⟩:=x;exact Heap.lt_size e
 |kS ob u=>obtain ⟨e,_⟩:=x;exact Heap.lt_size e
 |vO ps=>exact Heap.lt_size (show h.get? a=some _ from x)
 |met f y=>exact Heap.lt_size (show h.get? a=some _ from x)
 |ext φ=>obtain ⟨_,⟨_,e⟩,_⟩:=x;exact Heap.lt_size e
theorem Paired.C3{α β:Type}{F G:α→β→Prop}:∀{l₁:List α}{l₂:List β},Paired F l₁ l₂→(∀a b,F a b→G a b)→Paired G l₁ l₂
 |_,_, .nil,_=> .nil
 |_,_, .cons r t,f=> .cons (f _ _ r) (Paired.C3 t f)
theorem bL.m8(x:bL P w H h a o)(k:∀b u,(b=a∨H b=some (.own a))→h.get? b=some u→h'.get? b=some u)
  (ho:∀b,H b=some (.own a)→H' b=some (.own a)) (ht:∀b xs,H b=some (.tup xs)→H' b=some (.tup xs)):bL P w H' h' a o:=by
 induction o with
 |lst xs=>obtain ⟨z,its,n,r,e⟩:=x;exact ⟨z,its,n,r,k _ _ (.inl rfl) e⟩
 |tup xs=>obtain ⟨z,its,r,ob,e,c⟩:=x;exact ⟨z,its,r,ob,k _ _ (.inl rfl) e,c⟩
 |dK ck=>obtain ⟨z,y,vs,r,ob,es,ep,e,c⟩:=x;exact ⟨z,y,vs,r,ob,es,ep,k _ _ (.inl rfl) e,c⟩
 |dT ck=>
  obtain ⟨z,y,xs,r,ob,es,ep,e,c⟩:=x;exact ⟨z,y,xs,Paired.C3 r λp q z=>⟨z.1,ht _ _ z.2.1,z.2.2⟩,ob,es,ep,k _ _ (.inl rfl) e,c⟩
 |set S n=>obtain ⟨ob,es,ep,t,e,c⟩:=x;exact ⟨ob,es,ep,t,k _ _ (.inl rfl) e,c⟩
 |ins C dx fs=>
  obtain ⟨d,z,ne,e,mA,⟨od,es,ep,e2,c⟩,r⟩:=x;exact ⟨ho _ d,z,ne,k _ _ (.inl rfl) e,mA,⟨od,es,ep,k _ _ (.inr d) e2,c⟩,r⟩
 |own y=>obtain ⟨ob,e⟩:=x;exact ⟨ob,k _ _ (.inl rfl) e⟩
 |xd fs=>obtain ⟨mA,⟨od,es,ep,e,c⟩,r⟩:=x;exact ⟨mA,⟨od,es,ep,k _ _ (.inl rfl) e,c⟩,r⟩
 |rng lo hi=>obtain ⟨t,u,v,e⟩:=x;exact ⟨t,u,v,k _ _ (.inl rfl) e⟩
 |kS ob u ih=>obtain ⟨e,q⟩:=x;exact ⟨k _ _ (.inl rfl) e,ih q⟩
 |vO ps=>
  have e:h.get? a=some {cls:= .none,data:= .fields ps}:=x;show h'.get? a=some {cls:= .none,data:= .fields ps};exact k a _ (.inl rfl) e
 |met f y=>
  have e:h.get? a=some (PySem.W.methodObj (.ref f) (.ref y)):=x;show h'.get? a=some (PySem.W.methodObj (.ref f) (.ref y));exact k a _ (.inl rfl) e
 |ext φ=>obtain ⟨p,⟨o,e⟩,st⟩:=x;exact ⟨st _ _ p λo q=>k _ _ (.inl rfl) q,⟨o,k _ _ (.inl rfl) e⟩,st⟩
theorem fI.lt(x:fI P w H h)(e:H a=some o):a<h.objs.size:=(x a o e).lt
theorem fI.fresh(x:fI P w H h)(e:h.objs.size≤a):H a=none:=by
 cases q:H a with
 |none=>rfl
 |some u=>exact absurd (eo (x.lt q) e) (kc _)
theorem fI.kept(x:fI P w H h)(k:∀b u,h.get? b=some u→h'.get? b=some u):fI P w H h':=λa o e=>
 (x a o e).m8 (λb u _ q=>k b u q) (λ_ q=>q) λ_ _ q=>q
theorem fI.laid(x:fI P w H h)(k:∀b u,h.get? b=some u→h'.get? b=some u)(hp:h.objs.size≤a)(new:bL P w (upd H a o) h' a o):fI P w (upd H a o) h':=λb u e=>by
 have hn:=x.fresh hp
 by_cases hb:b=a
 ·subst hb;rw [aw] at e;cases e;exact new
 ·rw [ay hb] at e
  exact (x b u e).m8 (λc v _ q=>k c v q) (λc q=>by rw [ay (aM q hn)];exact q) λc xs q=>by rw [ay (aM q hn)];exact q
end
def Rd(H:Hp)(a:Addr)(u:HO):Prop:=H a=some u∨∃o,H a=some (.kS o u)
theorem Rd.ok{P:Program}{w:World}{H:Hp}{h:Heap}{a:Addr}{u:HO}(r:Rd H a u)(x:fI P w H h):bL P w H h a u:=by
 rcases r with r| ⟨o,r⟩
 ·exact x a u r
 ·obtain ⟨_,q⟩:=x a _ r
  exact q
def AL:Option HO→Prop
 |some (.lst _)=>True
 |some (.dK _)=>True
 |some (.dT _)=>True
 |some (.set _ _)=>True
 |some (.ins _ _ _)=>True
 |some (.ext _)=>True
 |_=>False
section
variable {P:Program} {w:World} {H:Hp} {h h':Heap} {x e:Addr} {o':HO}
theorem fI.write(ok:fI P w H h)(mu:AL (H x))(he:e=x∨H e=some (.own x))(k:∀b u,b≠e→h.get? b=some u→h'.get? b=some u)(xp:∃u,h'.get? e=some u)
  (new:bL P w (upd H x o') h' x o'):fI P w (upd H x o') h':=λb u q=>by
 have C6:∀c y,H c=some (.own y)→c≠x:=λc y r z=>by subst z;rw [r] at mu;exact mu
 have Jk:∀c xs,H c=some (.tup xs)→c≠x:=λc xs r z=>by subst z;rw [r] at mu;exact mu
 by_cases hb:b=x
 ·subst hb;rw [aw] at q;cases q;exact new
 ·rw [ay hb] at q
  by_cases uT:b=e
  ·have q':H b=some (.own x):=by
    rcases he with z|z
    ·exact absurd (uT.trans z) hb
    ·rw [uT];exact z
   rw [q] at q';cases q';obtain ⟨v,hv⟩:=xp;exact ⟨v,by rw [uT];exact hv⟩
  ·refine (ok b u q).m8 (λc v hc r=>k c v ?_ r) (λc r=>by rw [ay (C6 c b r)];exact r) λc xs r=>by rw [ay (Jk c xs r)];exact r
   rcases hc with rfl|hc
   ·exact uT
   ·rintro rfl
    rcases he with z|z
    ·exact C6 c b hc z
    ·rw [hc] at z;cases z;exact hb rfl
end
structure Un (fs ex:List Addr) (H H':Hp) (h h':Heap):Prop where
 keep:∀b o,h.get? b=some o→H b=none→b∉fs→b∉ex→h'.get? b=some o
 slot:∀b o,h.get? b=some o→H b=none→b∈fs→b∉ex→∃sl,h'.get? b=some {o with slots:=sl}
 free:∀b o,h.get? b=some o→H b=none→b∉ex→H' b=none
 there:∀b o,h.get? b=some o→b∉ex→∃o',h'.get? b=some o'
 tups:∀b xs,H b=some (.tup xs)→H' b=some (.tup xs)
 frzs:∀b o u,H b=some (.kS o u)→H' b=some (.kS o u)
 tbls:∀b ps,H b=some (.vO ps)→∃more,H' b=some (.vO (ps++more))
section
variable {fs MI ex Rb:List Addr} {H H1 H2:Hp} {h h1 h2 h':Heap} {a x e:Addr} {o:HO}
theorem Un.any(u:Un fs ex H H1 h h1){b:Addr}{ob:Obj}(q:h.get? b=some ob)(n:H b=none)(hx:b∉ex):∃sl,h1.get? b=some {ob with slots:=sl}:=by
 by_cases hb:b∈fs
 ·exact u.slot b ob q n hb hx
 ·exact ⟨ob.slots,u.keep b ob q n hb hx⟩
theorem Un.kept(k:∀b u,h.get? b=some u→h'.get? b=some u):Un fs ex H H h h':=
 ⟨λb ob q _ _ _=>k b ob q,λb ob q _ _ _=>⟨ob.slots,k b ob q⟩,λ_ _ _ n _=>n,λb ob q _=>⟨ob,k b ob q⟩,λ_ _ q=>q,λ_ _ _ q=>q,λ_ ps q=>⟨#[],by rw [q];simp⟩⟩
theorem Un.refl:Un fs ex H H h h:=Un.kept λ_ _ q=>q
theorem Un.laid(k:∀b u,h.get? b=some u→h'.get? b=some u)(hp:h.objs.size≤a)(hn:H a=none):Un fs ex H (upd H a o) h h' where
 keep:=λb u q _ _ _=>k b u q
 slot:=λb u q _ _ _=>⟨u.slots,k b u q⟩
 free:=λb u q n _=>by rw [ay (cf (eo (Heap.lt_size q) hp))];exact n
 there:=λb u q _=>⟨u,k b u q⟩
 tups:=λb xs q=>by rw [ay (aM q hn)];exact q
 frzs:=λb u xs q=>by rw [ay (aM q hn)];exact q
 tbls:=λb ps q=>⟨#[],by rw [ay (aM q hn),q];simp⟩
theorem Un.write(mu:AL (H x))(he:e=x∨H e=some (.own x))(k:∀b u,b≠e→h.get? b=some u→h'.get? b=some u)(xp:∃u,h'.get? e=some u):Un fs ex H (upd H x o) h h':=by
 have hx:∀b,H b=none→b≠x:=λb n z=>by subst z;rw [n] at mu;exact mu
 have hb:∀b,H b=none→b≠e:=λb n z=>by
  subst z
  rcases he with r|r
  ·exact hx b n r
  ·rw [n] at r;cases r
 have hm:∀b u,H b=some u→¬AL (some u)→b≠x:=λb u q nm z=>by subst z;rw [q] at mu;exact nm mu
 refine ⟨λb u q n _ _=>k b u (hb b n) q,λb u q n _ _=>⟨u.slots,k b u (hb b n) q⟩,λb u q n _=>by rw [ay (hx b n)];exact n,λb u q _=>?_,
  λb xs q=>by rw [ay (hm b _ q λz=>z)];exact q,λb u xs q=>by rw [ay (hm b _ q λz=>z)];exact q,λb ps q=>⟨#[],by rw [ay (hm b _ q λz=>z),q];simp⟩⟩
 by_cases uT:b=e
 ·subst uT;exact xp
 ·exact ⟨u,k b u uT q⟩
end
def Cc(h:Heap)(H:Hp):List Addr:=(List.range h.objs.size).filter λa=>(H a).isSome
def kU(h:Heap)(H:Hp):Heap:=PySem.W.hideAll h (Cc h H)
theorem uW(h:Heap)(H:Hp):(kU h H).objs.size=h.objs.size:=PySem.W.hideAll_size _ _
theorem xq{h:Heap}{H:Hp}{b:Addr}{o:Obj}(e:h.get? b=some o)(n:H b=none):(kU h H).get? b=some o:=
 PySem.W.hideAll_get _ e λhm=>by
  have q:(H b).isSome=true:=(uy.mp hm).2;rw [n] at q;simp at q
theorem zJ{h:Heap}{H:Hp}{b:Addr}{o:Obj}(e:(kU h H).get? b=some o):h.get? b=some o∧H b=none:=by
 have e':h.get? b=some o:=PySem.W.of_hideAll (Cc h H) e;refine ⟨e',?_⟩;cases q:H b with
 |none=>rfl
 |some x=>
  have hm:b∈Cc h H:=uy.mpr ⟨cq.mpr (Heap.lt_size e'),by simp [q]⟩
  have z:(kU h H).get? b=none:=PySem.W.hideAll_none (Cc h H) hm;rw [z] at e;cases e
structure Mod (K:PySem.W.Frag) (mg:Str→Option Value) (base:Heap):Prop where
 kin:K.In base
 glob:base.Ns mainGlobals mg
 blt:∃mb,base.Ns builtinsNs mb∧∀x:Str,x≠"__name__"→mb x=bootBuiltins x
 nolimit:base.NoLimit
structure Cx where
 prog:Program
 w:World
 K:PySem.W.Frag
 mg:Str→Option Value
 base:Heap
 A:Around
 N:List Str
 s₀:Shared
 H₀:Hp
 env:Env
 outer:List Env
 stack:List Env
 ex:List Addr
 fn:Str→Bool
 calm:Bool
 pn:List (Addr×Obj)
 xe:Value→Shared→Prop
def oJ(l:List Env):List Addr:=l.filterMap (·.frame)
abbrev Cx.fs(X:Cx):List Addr:=oJ X.outer
def iK(sc:Scope)(x:Str):Prop:=sc.names.lookup x=some .local∨sc.names.lookup x=some .cell∨sc.names.lookup x=some .free
def Loc(sc:Scope)(x:Str):Prop:=sc.names.lookup x=some .local∨sc.names.lookup x=some .cell
def Look(env:Env)(h:Heap)(m:Str→Option Value)(x:Str)(u:Value):Prop:=
 (env.kindOf x=some .local∧m x=some u)∨((env.kindOf x=some .cell∨env.kindOf x=some .free)∧∃c,env.cells.lookup x=some c∧h.IsCell c (some u))
structure Cx.Ok (X:Cx):Prop where
 mod:Mod X.K X.mg X.base
 kind:X.env.scope.kind= .function
 glob:X.env.globals=mainGlobals
 blt:X.env.builtins=builtinsNs
 above:X.s₀.heap.objs.size≤X.env.locals
 inj:∀x y c,X.env.cells.lookup x=some c→X.env.cells.lookup y=some c→x=y
 has:∀x,(X.env.kindOf x=some .cell∨X.env.kindOf x=some .free)→∃c,X.env.cells.lookup x=some c
 cab:∀x c,X.fn x=true→X.env.cells.lookup x=some c→X.s₀.heap.objs.size≤c
 hd:X.calm=true→X.A.handled=none
 frames:X.A.frames=some X.stack
 stk:X.stack=X.outer∨(X.stack=X.env::X.outer∧X.env.frame=some X.env.locals)
 exf:∀b∈X.ex,b≠X.env.locals∧∀x c,X.env.cells.lookup x=some c→c≠b
 bs:∀b o,X.base.get? b=some o→X.s₀.heap.get? b=some o∧X.H₀ b=none
 bsz:X.base.objs.size≤X.s₀.heap.objs.size
 noex:∀b o,X.base.get? b=some o→b∉X.ex
 exfs:∀b∈X.ex,b∉X.fs
 funs:X.s₀.heap.FunFrames X.base X.outer
 frf:∀b∈X.fs,X.H₀ b=none
structure Inv (X:Cx) (pins:List (Addr×Obj)) (σ:List (Option V)) (H:Hp) (s:Shared):Prop where
 ok:X.Ok
 os:s.os=X.s₀.os
 bare:AllBare s.gens
 base:Un X.fs X.ex X.H₀ H X.s₀.heap s.heap
 loc:∃m,s.heap.Ns X.env.locals m∧∀(i:Nat)(x:Str)(v:V),X.N[i]? =some x→σ[i]? =some (some v)→iK X.env.scope x→∃u,RelV v u∧Look X.env s.heap m x u
 cell:∀x c,X.env.cells.lookup x=some c→∃v,s.heap.IsCell c v
 free:H X.env.locals=none
 freeC:∀x c,X.env.cells.lookup x=some c→H c=none
 pin:∀p∈X.pn++pins,s.heap.get? p.1=some p.2∧H p.1=none∧p.1≠X.env.locals∧p.1∉X.fs∧∀v,p.2.data≠ .cell v
 hok:fI X.prog X.w H s.heap
 len:σ.length=X.N.length
section
variable {X:Cx} {pins:List (Addr×Obj)} {σ:List (Option V)} {H H':Hp} {s:Shared} {h':Heap}
theorem Cx.Ok.Jj(ok:X.Ok){b:Addr}{o:Obj}(e:X.base.get? b=some o):b∉X.fs:=λhb=>by
 have:=(ok.funs.mem hb).1
 rw [e] at this;cases this
theorem Inv.bs(I:Inv X pins σ H s):∀b o,X.base.get? b=some o→s.heap.get? b=some o∧H b=none:=λb o e=>
 ⟨I.base.keep b o (I.ok.bs b o e).1 (I.ok.bs b o e).2 (I.ok.Jj e) (I.ok.noex b o e),I.base.free b o (I.ok.bs b o e).1 (I.ok.bs b o e).2 (I.ok.noex b o e)⟩
theorem Inv.bk(I:Inv X pins σ H s):∀b o,X.base.get? b=some o→s.heap.get? b=some o:=λb o e=>(I.bs b o e).1
theorem Inv.mod(I:Inv X pins σ H s):Mod X.K X.mg X.base:=I.ok.mod
theorem Inv.fM(I:Inv X pins σ H s):X.K.In s.heap:=I.ok.mod.kin.keeps I.bk
theorem Inv.lt(I:Inv X pins σ H s):X.env.locals<s.heap.objs.size:=let ⟨_,hn,_⟩:=I.loc;hn.lt
theorem Inv.sz(I:Inv X pins σ H s):X.s₀.heap.objs.size≤s.heap.objs.size:=jG I.ok.above (qW I.lt)
theorem Inv.C5(I:Inv X pins σ H s){a:Addr}(h:s.heap.objs.size≤a):a∉X.fs:=λhb=>by
 obtain ⟨_,o,ho,_⟩:=I.ok.funs.mem hb;exact absurd (eo (Heap.lt_size ho) (jG I.sz h)) (kc _)
theorem Inv.uG(I:Inv X pins σ H s):∀x c,X.env.cells.lookup x=some c→c≠X.env.locals:=λx c e z=>by
 obtain ⟨v,o,ho,hd⟩:=I.cell x c e;obtain ⟨m,⟨o',es,ep,gX,jo,_⟩,_⟩:=I.loc;rw [z,gX] at ho;cases ho;rw [jo] at hd;cases hd
theorem Inv.funs(I:Inv X pins σ H s):s.heap.FunFrames X.base X.outer:=by
 have all:∀(l:List Env),(∀b∈oJ l,b∈X.fs)→X.s₀.heap.FunFrames X.base l→s.heap.FunFrames X.base l:=by
  intro l
  induction l with
  |nil=>intro _ _;trivial
  |cons env r ih=>
   intro hs hl;obtain ⟨hk,⟨L,o,hf,hn,ho,hd⟩,hr⟩:=hl;have hL:L∈X.fs:=hs L (by unfold oJ;rw [List.filterMap_cons,hf];exact eH)
   obtain ⟨sl,e⟩:=I.base.slot L o ho (I.ok.frf L hL) hL λz=>I.ok.exfs L z hL;exact ⟨hk,⟨L,_,hf,hn,e,hd⟩,ih (λb hb=>hs b (by unfold oJ;rw [List.filterMap_cons,hf];exact fg _ hb)) hr⟩
 exact all X.outer (λ_ hb=>hb) I.ok.funs
theorem Inv.stack(I:Inv X pins σ H s):s.heap.FunFrames X.base X.stack:=by
 rcases I.ok.stk with e| ⟨e,hf⟩
 ·rw [e];exact I.funs
 ·rw [e]
  obtain ⟨m,hn,_⟩:=I.loc;refine .cons (by rw [I.ok.kind];decide) hf hn ?_ I.funs
  exact Heap.get?_none_of_le (jG I.ok.bsz I.ok.above)
theorem Inv.sq(I:Inv X pins σ H s):∀b∈oJ X.stack,b∈X.env.locals::X.fs:=λb hb=>by
 rcases I.ok.stk with e| ⟨e,hf⟩
 ·rw [e] at hb;exact fg _ hb
 ·rw [e] at hb
  unfold oJ at hb;rw [List.filterMap_cons,hf] at hb;exact hb
theorem Inv.ug(I:Inv X pins σ H s):∀b∈oJ X.stack,H b=none:=λb hb=>by
 rcases cF.mp (I.sq b hb) with e|hb
 ·rw [e];exact I.free
 ·obtain ⟨_,o,ho,_⟩:=I.ok.funs.mem hb
  exact I.base.free b o ho (I.ok.frf b hb) λz=>I.ok.exfs b z hb
theorem Inv.step{g':Array GenState}{t':Nat}{d':Drawn}{ch:List Addr}(I:Inv X pins σ H s)
  (qc:∀b∈ch,(b∈X.ex∨X.s₀.heap.objs.size≤b)∧b≠X.env.locals∧(∀x c,X.env.cells.lookup x=some c→c≠b)∧∀p∈X.pn++pins,p.1≠b)
  (keep:∀b o,b≠X.env.locals→b∉X.fs→b∉ch→s.heap.get? b=some o→H b=none→h'.get? b=some o)
  (slot:∀b o,b≠X.env.locals→b∈X.fs→b∉ch→s.heap.get? b=some o→H b=none→∃sl,h'.get? b=some {o with slots:=sl}) (free:∀b o,b∉ch→s.heap.get? b=some o→H b=none→H' b=none)
  (there:∀b o,b∉ch→s.heap.get? b=some o→∃o',h'.get? b=some o')
  (tups:∀b xs,H b=some (.tup xs)→H' b=some (.tup xs)) (frzs:∀b o u,H b=some (.kS o u)→H' b=some (.kS o u)) (tbls:∀b ps,H b=some (.vO ps)→∃more,H' b=some (.vO (ps++more)))
  (ns:∀m,s.heap.Ns X.env.locals m→h'.Ns X.env.locals m) (hok:fI X.prog X.w H' h') (hg:AllBare g'):
  Inv X pins σ H' {s with heap:=h',gens:=g',drawn:=d',toks:=t'}:=by
 have Jh:∀b o,X.s₀.heap.get? b=some o→b≠X.env.locals:=λb o e=>cf (eo (Heap.lt_size e) I.ok.above)
 have Br:∀b o,X.s₀.heap.get? b=some o→b∉X.ex→b∉ch:=λb o e hx hb=>by
  rcases (qc b hb).1 with z|z
  ·exact hx z
  ·exact absurd (eo (Heap.lt_size e) z) (kc _)
 have cellK:∀x c,X.env.cells.lookup x=some c→∀v,s.heap.IsCell c v→h'.IsCell c v:=λx c e v ⟨o,ho,hd⟩=>by
  have zF:c∉ch:=λz=>(qc c z).2.2.1 x c e rfl
  by_cases hc:c∈X.fs
  ·obtain ⟨sl,q⟩:=slot c o (I.uG x c e) hc zF ho (I.freeC x c e)
   exact ⟨_,q,hd⟩
  ·exact ⟨o,keep c o (I.uG x c e) hc zF ho (I.freeC x c e),hd⟩
 refine ⟨I.ok,I.os,hg,⟨λb o e n hb hx=>?_,λb o e n hb hx=>?_,λb o e n hx=>?_,λb o e hx=>?_,λb xs e=>tups b xs (I.base.tups b xs e),λb o xs e=>frzs b o xs (I.base.frzs b o xs e),λb ps e=>?_⟩,?_,λx c e=>?_,?_,λx c e=>?_,λp hp=>?_,hok,I.len⟩
 ·exact keep b o (Jh b o e) hb (Br b o e hx) (I.base.keep b o e n hb hx) (I.base.free b o e n hx)
 ·obtain ⟨sl,e1⟩:=I.base.slot b o e n hb hx
  obtain ⟨Qz,e2⟩:=slot b _ (Jh b o e) hb (Br b o e hx) e1 (I.base.free b o e n hx);exact ⟨Qz,e2⟩
 ·obtain ⟨o',e1⟩:=I.base.there b o e hx
  exact free b o' (Br b o e hx) e1 (I.base.free b o e n hx)
 ·obtain ⟨o',e1⟩:=I.base.there b o e hx
  exact there b o' (Br b o e hx) e1
 ·obtain ⟨m1,e1⟩:=I.base.tbls b ps e
  obtain ⟨m2,e2⟩:=tbls b _ e1;exact ⟨m1++m2,by rw [e2,Array.append_assoc]⟩
 ·obtain ⟨m,hn,hl⟩:=I.loc
  refine ⟨m,ns m hn,λi x v e1 e2 e3=>?_⟩;obtain ⟨u,r,l⟩:=hl i x v e1 e2 e3;refine ⟨u,r,?_⟩
  rcases l with l| ⟨k,c,e,z⟩
  ·exact .inl l
  ·exact .inr ⟨k,c,e,cellK x c e _ z⟩
 ·obtain ⟨v,z⟩:=I.cell x c e
  exact ⟨v,cellK x c e v z⟩
 ·obtain ⟨m,⟨o,_,_,ho,_⟩,_⟩:=I.loc
  exact free _ o (λz=>(qc _ z).2.1 rfl) ho I.free
 ·obtain ⟨v,o,ho,hd⟩:=I.cell x c e
  exact free c o (λz=>(qc c z).2.2.1 x c e rfl) ho (I.freeC x c e)
 ·obtain ⟨e,n,ne,nf,d⟩:=I.pin p hp
  have zF:p.1∉ch:=λz=>(qc p.1 z).2.2.2 p hp rfl;exact ⟨keep p.1 p.2 ne nf zF e n,free p.1 p.2 zF e n,ne,nf,d⟩
theorem Inv.un{t':Nat}(I:Inv X pins σ H s)(u:Un X.fs [] H H' s.heap h')(hok:fI X.prog X.w H' h'):Inv X pins σ H' {s with heap:=h',toks:=t'}:=by
 obtain ⟨m,⟨o,es,ep,ho,r⟩,_⟩:=id I.loc;obtain ⟨sl,hL⟩:=u.any ho I.free (by simp)
 exact I.step (g':=s.gens) (d':=s.drawn) (ch:= []) (λ_ z=>nomatch z) (λb o _ hb _ e n=>u.keep b o e n hb (by simp)) (λb o _ hb _ e n=>u.slot b o e n hb (by simp)) (λb o _ e n=>u.free b o e n (by simp)) (λb o _ e=>u.there b o e (by simp)) u.tups u.frzs u.tbls (λm' hm=>by
  obtain ⟨o',gb,rA,gX,r'⟩:=hm;rw [ho] at gX;cases gX;exact ⟨_,gb,rA,hL,r'⟩) hok I.bare
theorem Inv.call{g':Array GenState}{t':Nat}{d':Drawn}{ch:List Addr}(I:Inv X pins σ H s)(u:Un (oJ X.stack) ch H H' s.heap h')(hok:fI X.prog X.w H' h')(hg:AllBare g')
  (qc:∀b∈ch,(b∈X.ex∨X.s₀.heap.objs.size≤b)∧b≠X.env.locals∧(∀x c,X.env.cells.lookup x=some c→c≠b)∧∀p∈X.pn++pins,p.1≠b):
  Inv X pins σ H' {s with heap:=h',gens:=g',drawn:=d',toks:=t'}:=by
 obtain ⟨m,⟨o,es,ep,ho,r⟩,_⟩:=id I.loc;obtain ⟨sl,hL⟩:=u.any ho I.free λz=>(qc _ z).2.1 rfl
 exact I.step (ch:=ch) qc (λb o hL hb hc e n=>u.keep b o e n (λz=>(cF.mp (I.sq b z)).elim hL hb) hc) (λb o _ _ hc e n=>u.any e n hc) (λb o hc e n=>u.free b o e n hc) (λb o hc e=>u.there b o e hc) u.tups u.frzs u.tbls (λm' hm=>by
  obtain ⟨o',gb,rA,gX,r'⟩:=hm;rw [ho] at gX;cases gX;exact ⟨_,gb,rA,hL,r'⟩) hok hg
theorem Inv.turned{t':Nat}{it:Addr}(I:Inv X pins σ H s)(k:∀b o,b≠it→s.heap.get? b=some o→h'.get? b=some o)(hn:H it=none)(hL:it≠X.env.locals)
  (h1:it∈X.ex∨X.s₀.heap.objs.size≤it) (h2:∀x c,X.env.cells.lookup x=some c→c≠it) (h3:∀p∈X.pn++pins,p.1≠it):Inv X pins σ H {s with heap:=h',toks:=t'}:=by
 have Ji:∀b u,H b=some u→b≠it:=λb u e z=>by rw [z,hn] at e;cases e
 refine I.step (g':=s.gens) (d':=s.drawn) (ch:= [it]) (λb hb=>?_) (λb o _ _ hc e _=>k b o (λz=>hc (by simp [z])) e) (λb o _ _ hc e _=>⟨o.slots,k b o (λz=>hc (by simp [z])) e⟩) (λ_ _ _ _ n=>n)
  (λb o hc e=>⟨o,k b o (λz=>hc (by simp [z])) e⟩) (λ_ _ e=>e) (λ_ _ _ e=>e) (λb ps e=>⟨#[],by rw [e];simp⟩) (λm hm=>?_) (λb u e=>?_) I.bare
 ·have e:b=it:=by simpa using hb
  subst e;exact ⟨h1,hL,h2,h3⟩
 ·obtain ⟨o,es,ep,ho,r⟩:=hm
  exact ⟨o,es,ep,k _ o (Ne.symm hL) ho,r⟩
 ·refine (I.hok b u e).m8 (λc v hc q=>k c v ?_ q) (λ_ q=>q) λ_ _ q=>q
  rcases hc with z|z
  ·rw [z];exact Ji b u e
  ·exact Ji c _ z
theorem Inv.tok(I:Inv X pins σ H s)(t:Nat):Inv X pins σ H {s with toks:=t}:=I.un (h':=s.heap) (t':=t) Un.refl I.hok
theorem Inv.kept{t':Nat}(I:Inv X pins σ H s)(k:∀b u,s.heap.get? b=some u→h'.get? b=some u):Inv X pins σ H {s with heap:=h',toks:=t'}:=I.un (Un.kept k) (I.hok.kept k)
theorem Inv.laid{a:Addr}{o:HO}{t':Nat}(I:Inv X pins σ H s)(k:∀b u,s.heap.get? b=some u→h'.get? b=some u)(hp:s.heap.objs.size≤a)(new:bL X.prog X.w (upd H a o) h' a o):
  Inv X pins σ (upd H a o) {s with heap:=h',toks:=t'}:=I.un (Un.laid k hp (I.hok.fresh hp)) (I.hok.laid k hp new)
theorem Inv.write{x e:Addr}{o:HO}{t':Nat}(I:Inv X pins σ H s)(mu:AL (H x))(he:e=x∨H e=some (.own x))(k:∀b u,b≠e→s.heap.get? b=some u→h'.get? b=some u)(xp:∃u,h'.get? e=some u)
  (new:bL X.prog X.w (upd H x o) h' x o):Inv X pins σ (upd H x o) {s with heap:=h',toks:=t'}:=I.un (Un.write mu he k xp) (I.hok.write mu he k xp new)
theorem Inv.lA{r9:List (Addr×Obj)}(I:Inv X pins σ H s)(h:∀p∈r9,s.heap.get? p.1=some p.2∧H p.1=none∧p.1≠X.env.locals∧p.1∉X.fs∧∀v,p.2.data≠ .cell v):Inv X r9 σ H s:=
 ⟨I.ok,I.os,I.bare,I.base,I.loc,I.cell,I.free,I.freeC,λp hp=>(b9.mp hp).elim (λz=>I.pin p (fc _ z)) (h p),I.hok,I.len⟩
theorem qH{N:List Str}(hN:N.Nodup){i j:Nat}{x:Str}(a:N[i]? =some x)(b:N[j]? =some x):i=j:=by
 obtain ⟨h1,e1⟩:=dU.mp a;obtain ⟨h2,e2⟩:=dU.mp b;exact (List.getElem_inj hN).mp (e1.trans e2.symm)
theorem store_ok2{M:Model}{A:Around}{E:Value→Shared→Prop}{i:Nat}{x:Str}{v:V}{u:Value}{Q:Unit→Shared→Prop}(I:Inv X pins σ H s)(hN:X.N.Nodup)(hi:X.N[i]? =some x)(hx:Loc X.env.scope x)(r:RelV v u)
  (h:∀s',Inv X pins (σ.set i (some v)) H s'→(∃a,Heap.SameBut a s.heap s'.heap∧(a=X.env.locals∨X.env.cells.lookup x=some a))→Q () s') (hf:X.fn x=true∨X.env.scope.names.lookup x=some .local:=by first|exact .inl rfl|exact .inr rfl|assumption):wpAny M A (storeName X.env x u) Q E s:=by
 obtain ⟨m,hn,hl⟩:=id I.loc;have HU:(X.env.scope.kind== .class|| (X.env.scope.kind== .module&&X.env.locals !=X.env.globals))=false:=by rw [I.ok.kind];rfl
 have CZ:i<σ.length:=by rw [I.len];exact (dU.mp hi).1
 have uG:=I.uG
 have tracked:∀{a:Addr}{h':Heap},(∃o,s.heap.get? a=some o∧H a=none)→Heap.SameBut a s.heap h'→fI X.prog X.w H h':=λ {a h'} ha hs b ob e=>by
  obtain ⟨_,_,za⟩:=ha;refine (I.hok b ob e).m8 (λc w' hc q=>(hs.2 c ?_).trans q) (λ_ q=>q) λ_ _ q=>q;rintro rfl
  rcases hc with rfl|hc
  ·rw [za] at e;cases e
  ·rw [za] at hc;cases hc
 rcases hx with hk|hk
 ·refine wpAny_storeName_local hk hn (λh' Nj hs=>?_) HU
  obtain ⟨oL,_,_,ze,_⟩:=id hn;refine h _ ⟨I.ok,I.os,I.bare,⟨λb o e n hb hx=>?_,λb o e n hb hx=>?_,I.base.free,λb o e hx=>?_,I.base.tups,I.base.frzs,I.base.tbls⟩,⟨_,Nj,λj y v' e1 e2 e3=>?_⟩,λy c e=>?_,I.free,I.freeC,λp hp=>?_,tracked ⟨oL,ze,I.free⟩ hs,by simpa using I.len⟩ ⟨_,hs, .inl rfl⟩
  ·exact (hs.2 b (cf (eo (Heap.lt_size e) I.ok.above))).trans (I.base.keep b o e n hb hx)
  ·obtain ⟨sl,e1⟩:=I.base.slot b o e n hb hx
   exact ⟨sl,(hs.2 b (cf (eo (Heap.lt_size e) I.ok.above))).trans e1⟩
  ·obtain ⟨o',e1⟩:=I.base.there b o e hx
   exact ⟨o',(hs.2 b (cf (eo (Heap.lt_size e) I.ok.above))).trans e1⟩
  ·by_cases hj:j=i
   ·subst hj
    rw [hi] at e1;cases e1;rw [gw CZ] at e2;cases e2;exact ⟨u,r, .inl ⟨hk,by simp⟩⟩
   ·rw [gx (Ne.symm hj)] at e2
    obtain ⟨u',r',q⟩:=hl j y v' e1 e2 e3;refine ⟨u',r',?_⟩
    rcases q with ⟨k,e⟩ | ⟨k,c,e,z⟩
    ·refine .inl ⟨k,?_⟩
     have:y≠x:=λe=>hj (qH hN e1 (e▸hi))
     simp [this,e]
    ·exact .inr ⟨k,c,e,z.sameBut hs (uG y c e)⟩
  ·obtain ⟨w',z⟩:=I.cell y c e
   exact ⟨w',z.sameBut hs (uG y c e)⟩
  ·obtain ⟨e,n,ne,nf,d⟩:=I.pin p hp
   exact ⟨(hs.2 p.1 ne).trans e,n,ne,nf,d⟩
 ·have EK:X.fn x=true:=by
   rcases hf with z|z
   ·exact z
   ·rw [z] at hk;cases hk
  obtain ⟨c,hc⟩:=I.ok.has x (.inl hk);obtain ⟨w',z⟩:=I.cell x c hc;refine wpAny_storeName_cell I.ok.kind hk hc z (λh' nE hs=>?_);obtain ⟨oc,Ii,Ij⟩:=id z;refine h {s with heap:=h'} ⟨I.ok,I.os,I.bare,⟨λb o e n hb hx=>?_,λb o e n hb hx=>?_,I.base.free,λb o e hx=>?_,I.base.tups,I.base.frzs,I.base.tbls⟩,⟨m,hn.sameBut hs (Ne.symm (uG x c hc)),λj y v' e1 e2 e3=>?_⟩,λy c' e=>?_,I.free,I.freeC,λp hp=>?_,tracked ⟨oc,Ii,I.freeC x c hc⟩ hs,by simpa using I.len⟩ ⟨c,hs, .inr hc⟩
  ·exact (hs.2 b (cf (eo (Heap.lt_size e) (I.ok.cab x c EK hc)))).trans (I.base.keep b o e n hb hx)
  ·obtain ⟨sl,e1⟩:=I.base.slot b o e n hb hx
   exact ⟨sl,(hs.2 b (cf (eo (Heap.lt_size e) (I.ok.cab x c EK hc)))).trans e1⟩
  ·obtain ⟨o',e1⟩:=I.base.there b o e hx
   exact ⟨o',(hs.2 b (cf (eo (Heap.lt_size e) (I.ok.cab x c EK hc)))).trans e1⟩
  ·by_cases hj:j=i
   ·subst hj
    rw [hi] at e1;cases e1;rw [gw CZ] at e2;cases e2;exact ⟨u,r, .inr ⟨.inl hk,c,hc,nE⟩⟩
   ·rw [gx (Ne.symm hj)] at e2
    obtain ⟨u',r',q⟩:=hl j y v' e1 e2 e3;refine ⟨u',r',?_⟩
    rcases q with q| ⟨k,c',e,z'⟩
    ·exact .inl q
    ·refine .inr ⟨k,c',e,z'.sameBut hs ?_⟩
     rintro rfl;exact hj (qH hN e1 (I.ok.inj _ _ _ e hc▸hi))
  ·by_cases HR:c'=c
   ·subst HR;exact ⟨_,nE⟩
   ·obtain ⟨w2,z2⟩:=I.cell y c' e
    exact ⟨w2,z2.sameBut hs HR⟩
  ·obtain ⟨e,n,ne,nf,d⟩:=I.pin p hp
   refine ⟨(hs.2 p.1 ?_).trans e,n,ne,nf,d⟩;intro q;rw [q,Ii] at e;have q':oc=p.2:=Option.some.inj e;exact d w' (by rw [←q'];exact Ij)
theorem mF{M:Model}{A:Around}{E:Value→Shared→Prop}{i:Nat}{x:Str}{v:V}{u:Value}{Q:Unit→Shared→Prop}(I:Inv X pins σ H s)(hN:X.N.Nodup)(hi:X.N[i]? =some x)(hx:Loc X.env.scope x)(r:RelV v u)
  (h:∀s',Inv X pins (σ.set i (some v)) H s'→Q () s') (hf:X.fn x=true∨X.env.scope.names.lookup x=some .local:=by first|exact .inl rfl|exact .inr rfl|assumption):wpAny M A (storeName X.env x u) Q E s:=
 store_ok2 I hN hi hx r (λs' I' _=>h s' I') hf
theorem Inv.Dw{s':Shared}{ch:List Addr}(I:Inv X pins σ H s)(ho:s'.os=s.os)(u:Un (oJ X.stack) ch H H' s.heap s'.heap)(hok:fI X.prog X.w H' s'.heap)(hg:AllBare s'.gens)
  (qc:∀b∈ch,(b∈X.ex∨X.s₀.heap.objs.size≤b)∧b≠X.env.locals∧(∀x c,X.env.cells.lookup x=some c→c≠b)∧∀p∈X.pn++pins,p.1≠b):Inv X pins σ H' s':=by
 obtain ⟨h',g',d',t',o'⟩:=s';have e:o'=s.os:=ho;subst e;exact I.call (g':=g') (t':=t') (d':=d') u hok hg qc
end
abbrev XK:=Value→Option Addr→Hp→Prop
abbrev St:=List (Option V)
abbrev VK:=V→Hp→Prop
abbrev TE:=St→Hp→VK→Prop
abbrev TT:=St→Hp→(Bool→Hp→Prop)→Prop
abbrev TA:=St→Hp→(List V→Hp→Prop)→Prop
structure Ends where
 nx:St→Hp→Prop
 rt:VK
 bk:St→Hp→Prop:=λ_ _=>False
 ct:St→Hp→Prop:=λ_ _=>False
abbrev TS:=Ends→St→Hp→Prop
def EP(X:Cx)(pins:List (Addr×Obj))(σ:St)(Q:VK)(u:Value)(s':Shared):Prop:=∃v H',Inv X pins σ H' s'∧RelV v u∧Q v H'
def TP(X:Cx)(pins:List (Addr×Obj))(σ:St)(Q:Bool→Hp→Prop)(b:Bool)(s':Shared):Prop:=∃H',Inv X pins σ H' s'∧Q b H'
def AP(X:Cx)(pins:List (Addr×Obj))(σ:St)(Q:List V→Hp→Prop)(us:List Value)(s':Shared):Prop:=∃vs H',Inv X pins σ H' s'∧Vals vs us∧Q vs H'
def SP(X:Cx)(pins:List (Addr×Obj))(D:Ends)(f:Flow)(s':Shared):Prop:=
 match f with
 | .next=>∃aD H',Inv X pins aD H' s'∧D.nx aD H'
 | .brk=>∃aD H',Inv X pins aD H' s'∧D.bk aD H'
 | .cont=>∃aD H',Inv X pins aD H' s'∧D.ct aD H'
 | .ret u=>∃v aD H',Inv X pins aD H' s'∧RelV v u∧D.rt v H'
def PE(X:Cx)(e:Expr)(t:TE):Prop:=
 ∀(pins:List (Addr×Obj))(s:Shared)(σ:St)(H:Hp)(Q:VK),Inv X pins σ H s→t σ H Q→wpAny (model X.prog X.w) X.A (eval e X.env) (EP X pins σ Q) X.xe s
def PT(X:Cx)(e:Expr)(t:TT):Prop:=
 ∀(pins:List (Addr×Obj))(s:Shared)(σ:St)(H:Hp)(Q:Bool→Hp→Prop),Inv X pins σ H s→t σ H Q→wpAny (model X.prog X.w) X.A (isTrue e X.env (eval e X.env)) (TP X pins σ Q) X.xe s
def PW(X:Cx)(e:Expr)(t:TT):Prop:=
 ∀(whole:Sem Value)(pins:List (Addr×Obj))(s:Shared)(σ:St)(H:Hp)(Q:Bool→Hp→Prop),Inv X pins σ H s→t σ H Q→wpAny (model X.prog X.w) X.A (isTrue e X.env whole) (TP X pins σ Q) X.xe s
theorem PW.pt{X:Cx}{e:Expr}{t:TT}(h:PW X e t):PT X e t:=h _
def PA(X:Cx)(es:List Expr)(t:TA):Prop:=
 ∀(pos:Pos)(pins:List (Addr×Obj))(s:Shared)(σ:St)(H:Hp)(Q:List V→Hp→Prop),Inv X pins σ H s→t σ H Q→wpAny (model X.prog X.w) X.A (spliced (backTo pos (starEach es X.env))) (AP X pins σ Q) X.xe s
def PS(X:Cx)(st:Stmt)(t:TS):Prop:=
 ∀(pins:List (Addr×Obj))(s:Shared)(σ:St)(H:Hp)(D:Ends),Inv X pins σ H s→t D σ H→wpAny (model X.prog X.w) X.A (exec st X.env) (SP X pins D) X.xe s
def jg(X:Cx)(st:List Stmt)(t:TS):Prop:=
 ∀(pins:List (Addr×Obj))(s:Shared)(σ:St)(H:Hp)(D:Ends),Inv X pins σ H s→t D σ H→wpAny (model X.prog X.w) X.A (execs st X.env) (SP X pins D) X.xe s
theorem thn{α:Type}{t:Sem α}{Q Q':α→Shared→Prop}{M:Model}{A:Around}{E:Value→Shared→Prop}{s:Shared}(h:wpAny M A t Q E s)(hQ:∀a s,Q a s→Q' a s):wpAny M A t Q' E s:=wpAny_mono h hQ λ_ _ x=>x
section
variable {X:Cx}
def Dj(i:Nat):TE:=λσ H Q=>∃v,σ[i]? =some (some v)∧Q v H
def tC(v:V):TE:=λ_ H Q=>Q v H
theorem r8{i:Nat}{x:Str}{pos:Pos}(hN:X.N[i]? =some x)(hv:iK X.env.scope x)(hd:(x==("__debug__":Str))=false:=by decide)(cA:(x==("__classdict__":Str))=false:=by decide):PE X (.Name x pos) (Dj i):=by
 intro pins s σ H Q I h;obtain ⟨v,e,h⟩:=h;obtain ⟨m,hn,hl⟩:=I.loc;obtain ⟨u,r,l⟩:=hl i x v hN e hv;have fin:EP X pins σ Q u s:=⟨v,H,I,r,h⟩
 rcases l with ⟨hk,hm⟩ | ⟨hk,c,hc,y3⟩
 ·exact wpAny_Name (wpAny_loadName_local I.ok.kind hk hn hm fin) hd
 ·rcases hk with hk|hk
  ·exact wpAny_Name (wpAny_loadName_cell I.ok.kind hk hc y3 fin) hd
  ·exact wpAny_Name (wpAny_loadName_free I.ok.kind hk hc y3 fin cA) hd
theorem BJ{i j pos}:PE X (.Constant (.int i) j pos) (tC (.int i)):=λ_ _ _ H _ I h=>wpAny_Constant_int ⟨.int i,H,I.tok _,⟨_,rfl⟩,h⟩
theorem Fj{b j pos}:PE X (.Constant (.bool b) j pos) (tC (.bl b)):=λ_ _ _ H _ I h=>Constant_bool ⟨.bl b,H,I,rfl,h⟩
theorem BK{j pos}:PE X (.Constant .none j pos) (tC .aN):=λ_ _ _ H _ I h=>Constant_none ⟨.aN,H,I,rfl,h⟩
theorem BN{x j pos}:PE X (.Constant (.str x) j pos) (tC (.str x)):=λ_ _ _ H _ I h=>Calls.Constant_str ⟨.str x,H,I.tok _,⟨_,rfl⟩,h⟩
def Gl(X:Cx)(x:Str):Prop:=X.env.kindOf x=some .globalImplicit
theorem oV{E:Value→Shared→Prop}{pins:List (Addr×Obj)}{s:Shared}{σ:St}{H:Hp}{x:Str}{u:Value}{pos:Pos}{Q:Value→Shared→Prop}(I:Inv X pins σ H s)(hg:Gl X x)(hm:X.mg x=some u)(h:Q u s)
  (hd:(x==("__debug__":Str))=false:=by decide):wpAny (model X.prog X.w) X.A (eval (.Name x pos) X.env) Q E s:=
 Calls.Name_function_global I.ok.kind hg (Calls.loadGlobal_global (by rw [I.ok.glob];exact I.mod.glob.keeps I.bk) hm h) hd
theorem iN{E:Value→Shared→Prop}{pins:List (Addr×Obj)}{s:Shared}{σ:St}{H:Hp}{x:Str}{u:Value}{pos:Pos}{Q:Value→Shared→Prop}(I:Inv X pins σ H s)(hg:Gl X x)(hm:X.mg x=none)(hv:bootBuiltins x=some u)(h:Q u s)
  (hn:x≠"__name__":=by decide) (hd:(x==("__debug__":Str))=false:=by decide):wpAny (model X.prog X.w) X.A (eval (.Name x pos) X.env) Q E s:=by
 obtain ⟨mb,h1,h2⟩:=I.mod.blt;exact Calls.Name_function_global I.ok.kind hg (Calls.loadGlobal_builtin (by rw [I.ok.glob];exact I.mod.glob.keeps I.bk) hm (by rw [I.ok.blt];exact h1.keeps I.bk) ((h2 x hn).trans hv) h) hd
theorem zT{x:Str}{v:V}{u:Value}{pos:Pos}(hg:Gl X x)(hm:X.mg x=some u)(r:RelV v u)(hd:(x==("__debug__":Str))=false:=by decide):PE X (.Name x pos) (tC v):=
 λ_ _ _ H _ I h=>oV I hg hm ⟨v,H,I,r,h⟩ hd
theorem zQ{x:Str}{v:V}{u:Value}{pos:Pos}(hg:Gl X x)(hm:X.mg x=none)(hv:bootBuiltins x=some u)(r:RelV v u)(hn:x≠"__name__":=by decide)(hd:(x==("__debug__":Str))=false:=by decide):PE X (.Name x pos) (tC v):=
 λ_ _ _ H _ I h=>iN I hg hm hv ⟨v,H,I,r,h⟩ hn hd
variable {a b:Expr} {ta tb:TE} {pos:Pos}
variable {tA sr:TT} {rest:List Expr}
def KJ(t u:TT):TT:=λσ H Q=>t σ H λc H1=>if c=true then u σ H1 Q else Q false H1
def QK(t u:TT):TT:=λσ H Q=>t σ H λc H1=>if c=true then Q true H1 else u σ H1 Q
def KU(t:TT):TT:=λσ H Q=>t σ H λc H1=>Q (!c) H1
theorem z9(ha:PT X a tA):PW X (.BoolOp .And [a] pos) tA:=by
 intro wh pins s σ H Q I h;refine isTrue_and (thn (ha pins s σ H Q I h) λc s1 e=>?_);cases c with
 |true=>exact isTrue_and_nil e
 |false=>exact e
theorem BV(ha:PT X a tA):PW X (.BoolOp .Or [a] pos) tA:=by
 intro wh pins s σ H Q I h;refine isTrue_or (thn (ha pins s σ H Q I h) λc s1 e=>?_);cases c with
 |false=>exact isTrue_or_nil e
 |true=>exact e
theorem BU(ha:PT X a tA)(hb:PW X (.BoolOp .And (b::rest) pos) sr):PW X (.BoolOp .And (a::b::rest) pos) (KJ tA sr):=by
 intro wh pins s σ H Q I h;refine isTrue_and (thn (ha pins s σ H _ I h) λc s1 ⟨H1,I1,q1⟩=>?_);cases c with
 |true=>exact hb wh pins s1 σ H1 Q I1 q1
 |false=>exact ⟨H1,I1,q1⟩
theorem Fm(ha:PT X a tA)(hb:PW X (.BoolOp .Or (b::rest) pos) sr):PW X (.BoolOp .Or (a::b::rest) pos) (QK tA sr):=by
 intro wh pins s σ H Q I h;refine isTrue_or (thn (ha pins s σ H _ I h) λc s1 ⟨H1,I1,q1⟩=>?_);cases c with
 |true=>exact ⟨H1,I1,q1⟩
 |false=>exact hb wh pins s1 σ H1 Q I1 q1
theorem BS(ha:PT X a tA):PT X (.UnaryOp .Not a pos) (KU tA):=by
 intro pins s σ H Q I h;exact isTrue_not (ha pins s σ H (λc H1=>Q (!c) H1) I h)
def Fw(ta tb:TE):TE:=λσ H Q=>ta σ H λx H1=>∃c,x= .bl c∧if c=true then tb σ H1 Q else Q (.bl false) H1
def FD(ta:TE):TE:=λσ H Q=>ta σ H λx H1=>∃c,x= .bl c∧Q (.bl (!c)) H1
theorem BM{op}{t:TE}(h:PE X a t):PE X (.BoolOp op [a] pos) t:=λpins s σ H Q I hw=>BoolOp_one (h pins s σ H Q I hw)
theorem BF(ha:PE X a ta)(hb:PE X (.BoolOp .And (b::rest) pos) tb):PE X (.BoolOp .And (a::b::rest) pos) (Fw ta tb):=by
 intro pins s σ H Q I h;refine BoolOp_and (thn (ha pins s σ H _ I h) λv s1 ⟨x,H1,I1,r1,q1⟩=>?_);obtain ⟨c,rfl,q1⟩:=q1;cases r1;refine wpAny_truthy_bool ?_;cases c with
 |true=>exact hb pins s1 σ H1 Q I1 q1
 |false=>exact ⟨.bl false,H1,I1,rfl,q1⟩
theorem BL(ha:PE X a ta):PE X (.UnaryOp .Not a pos) (FD ta):=by
 intro pins s σ H Q I h;refine UnaryOp_ (thn (ha pins s σ H _ I h) λv s1 ⟨x,H1,I1,r1,q1⟩=>?_);obtain ⟨c,rfl,q1⟩:=q1;cases r1;exact not_of (wpAny_truthy_bool ⟨.bl (!c),H1,I1,rfl,q1⟩)
end
def bx(K:PySem.W.Frag)(H:Hp)(a:Addr)(xs:List V):Prop:=
 Rd H a (.lst xs)∨
  ∃(o:Obj)(its:Array Value)(n:Nat),K.lookup a=some o∧o.cls= .type "list"∧o.dict=none∧o.data= .seq its n∧its.size≤sizeLine∧Vals xs its.toList
def dH(K:PySem.W.Frag)(H:Hp)(a:Addr)(xs:List V):Prop:=
 Rd H a (.tup xs)∨
  ∃(o:Obj)(its:Array Value)(n:Nat),K.lookup a=some o∧o.cls= .type "tuple"∧o.data= .seq its n∧its.size≤sizeLine∧Vals xs its.toList
def FX:Value→Option V
 | .none=>some .aN
 | .bool b=>some (.bl b)
 | .int i _=>some (.int i)
 | .str x _=>some (.str x)
 | .bytes b _=>some (.wX b)
 | .float b _=>some (.uN b)
 | .ref a=>some (.ref a)
 | .type n=>some (.ty n)
 |_=>none
theorem RelV.abs{x:V}{u:Value}(r:RelV x u):FX u=some x:=by
 cases x with
 |aN=>cases r;rfl
 |bl _=>cases r;rfl
 |int _=>obtain ⟨t,rfl⟩:=r;rfl
 |str _=>obtain ⟨t,rfl⟩:=r;rfl
 |wX _=>obtain ⟨t,rfl⟩:=r;rfl
 |uN _=>obtain ⟨t,rfl⟩:=r;rfl
 |ref _=>cases r;rfl
 |ty _=>cases r;rfl
theorem RelV.inj{x y:V}{u:Value}(r:RelV x u)(q:RelV y u):x=y:=Option.some.inj (r.abs.symm.trans q.abs)
theorem Vals.inj:∀{xs ys:List V}{us:List Value},Vals xs us→Vals ys us→xs=ys
 |_,_,_, .nil, .nil=>rfl
 |_,_,_, .cons r t, .cons r' t'=>by rw [r.inj r',Vals.inj t t']
section
variable {X:Cx} {pins:List (Addr×Obj)} {σ:St} {H:Hp} {s:Shared} {a:Addr} {xs ys:List V}
theorem bx.of{K:PySem.W.Frag}(h:H a=some (.lst xs)):bx K H a xs:= .inl (.inl h)
theorem dH.of{K:PySem.W.Frag}(h:H a=some (.tup xs)):dH K H a xs:= .inl (.inl h)
theorem Inv.list(I:Inv X pins σ H s)(h:bx X.K H a xs):∃its:List Value,Vals xs its∧PlainL s.heap a its.toArray∧xs.length≤sizeLine:=by
 rcases h with h| ⟨o,its,n,hk,hc,hd,hs,hz,r⟩
 ·obtain ⟨z,its,n,r,e⟩:=h.ok I.hok
  exact ⟨its,r,⟨_,n,e,rfl,rfl,rfl⟩,z⟩
 ·refine ⟨its.toList,r,⟨o,n,I.fM a o hk,hc,hd,by simpa using hs⟩,?_⟩
  have e:=r.length;simp only [fe] at e;omega
theorem Inv.tuple(I:Inv X pins σ H s)(h:dH X.K H a xs):∃its:List Value,Vals xs its∧IsTup s.heap a its.toArray∧xs.length≤sizeLine:=by
 rcases h with h| ⟨o,its,n,hk,hc,hs,hz,r⟩
 ·obtain ⟨z,its,r,p⟩:=h.ok I.hok
  exact ⟨its,r,p,z⟩
 ·refine ⟨its.toList,r,⟨o,I.fM a o hk,hc,n,by simpa using hs⟩,?_⟩
  have e:=r.length;simp only [fe] at e;omega
theorem Inv.mi(I:Inv X pins σ H s)(h:bx X.K H a xs)(h':bx X.K H a ys):xs=ys:=by
 obtain ⟨its,r,⟨o,n,e,_,_,d⟩,_⟩:=I.list h;obtain ⟨its',r',⟨o',n',e',_,_,d'⟩,_⟩:=I.list h';rw [e] at e';cases e';rw [d] at d'
 injection d' with d1 _
 have:its=its':=by simpa using congrArg Array.toList d1
 subst this;exact r.inj r'
end
abbrev Cx.j8(X:Cx)(E:Value→Shared→Prop):Cx:={X with xe:=E}
abbrev Cx.ph(X:Cx):Cx:=X.j8 λ_ _=>False
theorem Cx.Ok.j8{X:Cx}(ok:X.Ok)(E:Value→Shared→Prop):(X.j8 E).Ok:=
 ⟨ok.mod,ok.kind,ok.glob,ok.blt,ok.above,ok.inj,ok.has,ok.cab,ok.hd,ok.frames,ok.stk,ok.exf,ok.bs,ok.bsz,ok.noex,ok.exfs,ok.funs,ok.frf⟩
theorem Cx.Ok.gR{X:Cx}{E:Value→Shared→Prop}(ok:(X.j8 E).Ok):X.Ok:=
 ⟨ok.mod,ok.kind,ok.glob,ok.blt,ok.above,ok.inj,ok.has,ok.cab,ok.hd,ok.frames,ok.stk,ok.exf,ok.bs,ok.bsz,ok.noex,ok.exfs,ok.funs,ok.frf⟩
section
variable {X:Cx} {pins:List (Addr×Obj)} {σ:St} {H:Hp} {s:Shared} {E:Value→Shared→Prop}
theorem Inv.j8(I:Inv X pins σ H s)(E:Value→Shared→Prop):Inv (X.j8 E) pins σ H s:=⟨I.ok.j8 E,I.os,I.bare,I.base,I.loc,I.cell,I.free,I.freeC,I.pin,I.hok,I.len⟩
theorem Inv.gR(I:Inv (X.j8 E) pins σ H s):Inv X pins σ H s:=⟨I.ok.gR,I.os,I.bare,I.base,I.loc,I.cell,I.free,I.freeC,I.pin,I.hok,I.len⟩
theorem SP.gR{D:Ends}{f:Flow}{s':Shared}(h:SP (X.j8 E) pins D f s'):SP X pins D f s':=by
 cases f with
 |next=>obtain ⟨aD,H',I,q⟩:=h;exact ⟨aD,H',I.gR,q⟩
 |brk=>obtain ⟨aD,H',I,q⟩:=h;exact ⟨aD,H',I.gR,q⟩
 |cont=>obtain ⟨aD,H',I,q⟩:=h;exact ⟨aD,H',I.gR,q⟩
 |ret u=>obtain ⟨v,aD,H',I,r,q⟩:=h;exact ⟨v,aD,H',I.gR,r,q⟩
theorem jg.ph{st:List Stmt}{t:TS}(h:jg X.ph st t):jg X st t:=λpins s σ H D I hw=>
 wpAny_mono (h pins s σ H D (I.j8 _) hw) (λ_ _ q=>q.gR) λ_ _ z=>False.elim z
end
section
variable {X:Cx} {st:Stmt} {rest:List Stmt} {t u:TS} {e:Expr} {te:TE} {pos:Pos}
def FC:TS:=λD σ H=>D.nx σ H
def KY(t u:TS):TS:=λD σ H=>t {D with nx:=u D} σ H
theorem t6:jg X [] FC:=λ_ _ σ H _ I h=>wpAny_execs_nil ⟨σ,H,I,h⟩
theorem dE(h1:PS X st t)(h2:jg X rest u):jg X (st::rest) (KY t u):=by
 intro pins s σ H D I h;refine wpAny_execs_cons (thn (h1 pins s σ H {D with nx:=u D} I h) λf s1 q=>?_)
 cases f with
 |next=>
  obtain ⟨aD,H',I',q⟩:=q;exact h2 pins s1 aD H' D I' q
 |ret v=>exact q
 |brk=>exact q
 |cont=>exact q
theorem pK(h1:PS X st t):jg X [st] t:=by
 intro pins s σ H D I h;refine wpAny_execs_cons (thn (h1 pins s σ H D I h) λf s1 q=>?_);cases f with
 |next=>exact wpAny_execs_nil q
 |ret v=>exact q
 |brk=>exact q
 |cont=>exact q
theorem Inv.quiet{pins:List (Addr×Obj)}{σ:St}{H:Hp}{s:Shared}(I:Inv X pins σ H s):interactive X.env=false:=by simp [interactive,I.ok.kind]
def Fz(te:TE):TS:=λD σ H=>te σ H λ_ H1=>D.nx σ H1
theorem lB(he:PE X e te)(hs:swapsWith e none pos.line X.env=pure false:=by rfl):PS X (.Expr e pos) (Fz te):=by
 intro pins s σ H D I h;exact wpAny_Expr_any (thn (he pins s σ H _ I h) λv s1 ⟨x,H1,I1,r1,q1⟩=>⟨σ,H1,I1,q1⟩) I.quiet hs
def KW(te:TE):TS:=λD σ H=>te σ H D.rt
theorem sh(he:PE X e te):PS X (.Return (some e) pos) (KW te):=by
 intro pins s σ H D I h;exact wpAny_Return_some (thn (he pins s σ H _ I h) λv s1 ⟨x,H1,I1,r1,q1⟩=>⟨x,σ,H1,I1,r1,q1⟩)
def KR(c:TT)(t u:TS):TS:=λD σ H=>c σ H λb H1=>if b=true then t D σ H1 else u D σ H1
theorem z3{c:Expr}{a b:List Stmt}{tc:TT}(hc:PT X c tc)(ha:jg X a t)(hb:jg X b u):PS X (.If c a b pos) (KR tc t u):=by
 intro pins s σ H D I h;refine wpAny_If (thn (hc pins s σ H _ I h) λd s1 ⟨H1,I1,q1⟩=>?_);cases d with
 |true=>exact ha pins s1 σ H1 D I1 q1
 |false=>exact hb pins s1 σ H1 D I1 q1
def B9:TS:=λ_ _ _=>False
theorem xJ:PS X st B9:=λ_ _ _ _ _ _ h=>h.elim
end
abbrev TG:=V→St→Hp→(St→Hp→Prop)→Prop
abbrev qY:=List V→St→Hp→(St→Hp→Prop)→Prop
def PG(X:Cx)(target:Expr)(t:TG):Prop:=
 ∀(pins:List (Addr×Obj))(s:Shared)(σ:St)(H:Hp)(v:V)(u:Value)(Q:St→Hp→Prop),Inv X pins σ H s→RelV v u→t v σ H Q→
  wpAny (model X.prog X.w) X.A (assign target X.env u) (λ_ s'=>∃aD H',Inv X pins aD H' s'∧Q aD H') X.xe s
def sA(X:Cx)(ts:List Expr)(t:qY):Prop:=
 ∀(pins:List (Addr×Obj))(s:Shared)(σ:St)(H:Hp)(vs:List V)(us:List Value)(Q:St→Hp→Prop),Inv X pins σ H s→Vals vs us→t vs σ H Q→
  wpAny (model X.prog X.w) X.A (assignInOrder ((assignEach ts X.env).map (·.2)) us) (λ_ s'=>∃aD H',Inv X pins aD H' s'∧Q aD H') X.xe s
abbrev yd:=V→V→V→Hp→(Hp→Prop)→Prop
def Cm(X:Cx)(t:yd):Prop:=
 ∀(pins:List (Addr×Obj))(s:Shared)(σ:St)(H:Hp)(o i v:V)(ov iv u:Value)(Q:Hp→Prop),Inv X pins σ H s→RelV o ov→RelV i iv→RelV v u→t o i v H Q→
  wpAny (model X.prog X.w) X.A (setItem ov iv u) (λ_ s'=>∃H',Inv X pins σ H' s'∧Q H') X.xe s
section
variable {X:Cx} {pos:Pos}
def yU(i:Nat):TG:=λv σ H Q=>Q (σ.set i (some v)) H
theorem tX{i:Nat}{x:Str}(hN:X.N.Nodup)(hi:X.N[i]? =some x)(hx:Loc X.env.scope x)(hf:X.fn x=true∨X.env.scope.names.lookup x=some .local:=by first|exact .inl rfl|exact .inr rfl|assumption):PG X (.Name x pos) (yU i):=by
 intro pins s σ H v u Q I r h;exact wpAny_assign_Name (mF I hN hi hx r (λs' I'=>⟨_,H,I',h⟩) hf)
def Hz:qY:=λvs σ H Q=>vs= []∧Q σ H
def Ex(t:TG)(u:qY):qY:=λvs σ H Q=>∃v r,vs=v::r∧t v σ H λaD H'=>u r aD H' Q
theorem tY:sA X [] Hz:=by
 intro pins s σ H vs us Q I r h;obtain ⟨e,h⟩:=h;subst e;cases r;exact assignInOrder_nil ⟨σ,H,I,h⟩
theorem mx{e:Expr}{es:List Expr}{t:TG}{u:qY}(h1:PG X e t)(h2:sA X es u)
  (hs:(assignEach (e::es) X.env).map (·.2)=assign e X.env::(assignEach es X.env).map (·.2):=by rfl):sA X (e::es) (Ex t u):=by
 intro pins s σ H vs us Q I r h;obtain ⟨v,vr,e1,h⟩:=h;subst e1;cases r with
 |cons r rr=>
  rw [hs];refine assignInOrder_cons (thn (h1 pins s σ H _ _ _ I r h) λ_ s1 ⟨vS,H1,I1,q1⟩=>?_);exact h2 pins s1 vS H1 _ _ Q I1 rr q1
def HB(K:PySem.W.Frag)(n:Nat)(t:qY):TG:=λv σ H Q=>∃a xs,v= .ref a∧dH K H a xs∧xs.length=n∧t xs σ H Q
theorem wy{es:List Expr}{k:Nat}{t:qY}{n:Nat}(hc:X.calm=true)(h:sA X es t)
  (hn:(assignEach es X.env).length=n:=by rfl) (EW:(assignEach es X.env).findIdx? (·.1)=none:=by rfl):PG X (.Tuple es k pos) (HB X.K n t):=by
 intro pins s σ H v u Q I r hw;obtain ⟨a,xs,e1,hq,hl,hw⟩:=hw;subst e1;cases r;obtain ⟨its,rv,ht,hz⟩:=I.tuple hq;refine assign_Tuple_tuple (I.ok.hd hc) ht (by simp [hn,←hl,rv.length]) EW λh' hx=>?_
 have I1:Inv X pins σ H {s with heap:=h'}:=I.kept (t':=s.toks) λb o e=>hx b o (cf (Heap.lt_size e)) e
 exact h pins _ σ H xs _ Q I1 (by simpa using rv) hw
def HA(to ti:TE)(t:yd):TG:=λv σ H Q=>to σ H λo H1=>ti σ H1 λi H2=>t o i v H2 λH3=>Q σ H3
theorem nW{o i:Expr}{to ti:TE}{t:yd}(ho:PE X o to)(hi:PE X i ti)(hs:Cm X t)
  (ha:∀v,assign (.Subscript o i pos) X.env v=(do
   let ov ←holding [v] (eval o X.env)
   let iv ←holding [v,ov] (eval i X.env)
   standAt pos
   holding [v,ov,iv] (setItem ov iv v)
   release [v,ov,iv] []):=by intro _;rfl):PG X (.Subscript o i pos) (HA to ti t):=by
 intro pins s σ H v u Q I r h;rw [ha];refine wpAny_bind (wpAny_holding (thn (ho pins s σ H _ I h) λov s1 ⟨x,H1,I1,r1,q1⟩=>?_));refine wpAny_bind (wpAny_holding (thn (hi pins s1 σ H1 _ I1 q1) λiv s2 ⟨y,H2,I2,r2,q2⟩=>?_));refine wpAny_bind (wpAny_standAt (wpAny_bind (wpAny_holding (thn (hs pins s2 σ H2 x y v ov iv u _ I2 r1 r2 r q2) λ_ s3 ⟨H3,I3,q3⟩=>?_))));exact wpAny_release ⟨σ,H3,I3,q3⟩
def Dh(te:TE)(g:TG):TS:=λD σ H=>te σ H λx H1=>g x σ H1 D.nx
theorem se{tg e:Expr}{te:TE}{g:TG}(he:PE X e te)(hg:PG X tg g)(hs:swapsWithSole [tg] e pos.line X.env=pure false:=by rfl)(hw:swappedStores [tg] e X.env=pure none:=by rfl)
  (h1:(assignEach [tg] X.env).map (·.2)= [assign tg X.env]:=by rfl):PS X (.Assign [tg] e pos) (Dh te g):=by
 intro pins s σ H D I h;refine wpAny_Assign_stores (thn (he pins s σ H _ I h) λv s1 ⟨x,H1,I1,r1,q1⟩=>?_) hs hw;rw [h1];exact thn (hg pins s1 σ H1 x v _ I1 r1 q1) λ_ s2 q=>q
theorem eQ{i:Nat}{x:Str}{e:Expr}{te:TE}{pos':Pos}(hN:X.N.Nodup)(hi:X.N[i]? =some x)(hx:Loc X.env.scope x)(he:PE X e te)(hs:swapsWith e (some (.Name x pos')) pos.line X.env=pure false:=by rfl)(hf:X.fn x=true∨X.env.scope.names.lookup x=some .local:=by first|exact .inl rfl|exact .inr rfl|assumption):
  PS X (.Assign [.Name x pos'] e pos) (Dh te (yU i)):=by
 intro pins s σ H D I h;refine wpAny_Assign_Name (thn (he pins s σ H _ I h) λv s1 ⟨y,H1,I1,r1,q1⟩=>?_) hs;exact mF I1 hN hi hx r1 (λs2 I2=>⟨_,H1,I2,q1⟩) hf
end
section
variable {X:Cx} {pos:Pos}
def Ca(c:TT)(tb:TS):TS:=λD σ H=>∃W:Nat→St→Hp→Prop,(∃m,W m σ H)∧∀m σ H,W m σ H→
 c σ H λb H1=>if b=true then ∃N:St→Hp→Prop,(∀aD H',N aD H'→∃m',m'<m∧W m' aD H')∧tb {D with nx:=N,ct:=N,bk:=D.nx} σ H1 else D.nx σ H1
theorem xK{c:Expr}{body:List Stmt}{tc:TT}{tb:TS}(hp:PassesOwn (model X.prog X.w) X.A X.env X.xe)(hc:PT X c tc)(hb:jg X body tb):PS X (.While c body [] pos) (Ca tc tb):=by
 intro pins s σ H D I h;obtain ⟨W,⟨m0,w0⟩,turn⟩:=h;refine wpAny_While (codeAny_whileLoop (λn s'=>∃aD H',Inv X pins aD H' s'∧W n aD H') ?_ m0 ⟨σ,H,I,w0⟩);rintro n s1 ⟨vS,H1,I1,w1⟩;refine wpAny_passesOwn hp (thn (hc pins s1 vS H1 _ I1 (turn n vS H1 w1)) λb s2 ⟨H2,I2,q2⟩=>?_);cases b with
 |true=>
  obtain ⟨N,hN,q2⟩:=q2;rw [if_pos rfl];refine wpAny_passesOwn hp (thn (hb pins s2 vS H2 _ I2 q2) λf s3 q3=>?_);cases f with
  |next=>
   obtain ⟨nN,H3,I3,n3⟩:=q3;obtain ⟨m',hm,w3⟩:=hN nN H3 n3;exact ⟨m',hm,nN,H3,I3,w3⟩
  |cont=>
   obtain ⟨nN,H3,I3,n3⟩:=q3;obtain ⟨m',hm,w3⟩:=hN nN H3 n3;exact ⟨m',hm,nN,H3,I3,w3⟩
  |brk=>exact q3
  |ret v=>exact q3
 |false=>
  rw [if_neg b8];exact wpAny_execs_nil ⟨vS,H2,I2,q2⟩
end
structure It where
 go:Nat→Hp→Prop
 yld:Nat→Hp→V→Hp→Prop
 stop:Nat→Hp→Prop
def fB(X:Cx)(pins:List (Addr×Obj))(H:Hp)(b:Addr):Prop:=
 H b=none∧b≠X.env.locals∧b∉X.fs∧(b∈X.ex∨X.s₀.heap.objs.size≤b)∧(∀x c,X.env.cells.lookup x=some c→c≠b)∧∀p∈X.pn++pins,p.1≠b
theorem Inv.wc{X:Cx}{pins:List (Addr×Obj)}{σ:St}{H H':Hp}{s:Shared}{b:Addr}(I:Inv X pins σ H s)(hb:s.heap.objs.size≤b)(hn:H' b=none):fB X pins H' b:=by
 refine ⟨hn,Nat.ne_of_gt (eo I.lt hb),I.C5 hb, .inr (jG I.sz hb),λx c e z=>?_,λp hp z=>?_⟩
 ·obtain ⟨v,q⟩:=I.cell x c e
  exact absurd (eo q.lt (by rw [z];exact hb)) (kc _)
 ·exact absurd (eo (Heap.lt_size (I.pin p hp).1) (by rw [z];exact hb)) (kc _)
structure Turn (P:Program) (w:World) (K:PySem.W.Frag) (tg:Expr) (J:It) (fp:List Addr) (it:Addr) (tn:Nat→Heap→Prop):Prop where
 mem:it∈fp
 obj:∀i h,tn i h→∀b∈fp,∃o,h.get? b=some o∧∀v,o.data≠ .cell v
 keep:∀i h h',tn i h→(∀b∈fp,∀o,h.get? b=some o→h'.get? b=some o)→tn i h'
 item:∀(X:Cx),X.prog=P→X.w=w→X.K=K→X.calm=true→∀(i:Nat)(pins:List (Addr×Obj))(s:Shared)(σ:St)(H:Hp)(E:Value→Shared→Prop),Inv X pins σ H s→(∀b∈fp,fB X pins H b)→tn i s.heap→J.go i H→
  wpAny (model P w) X.A (pyNext (.ref it)) (λr s1=>∃u,r=some u∧
   wpAny (model P w) X.A (letOwnedTupleGo tg (.ref it) u) (λ_ s2=>∃x H',Inv X pins σ H' s2∧RelV x u∧J.yld i H x H'∧tn (i+1) s2.heap∧∀b∈fp,H' b=none) E s1) E s
 done:∀(X:Cx),X.prog=P→X.w=w→X.K=K→X.calm=true→∀(i:Nat)(pins:List (Addr×Obj))(s:Shared)(σ:St)(H:Hp)(E:Value→Shared→Prop),Inv X pins σ H s→(∀b∈fp,fB X pins H b)→tn i s.heap→J.stop i H→
  wpAny (model P w) X.A (pyNext (.ref it)) (λr s1=>r=none∧Inv X pins σ H s1) E s
 self:∀(A:Around)(i:Nat)(s:Shared)(Q:Value→Shared→Prop)(E:Value→Shared→Prop),tn i s.heap→Q (.ref it) s→wpAny (model P w) A (pyIter (.ref it)) Q E s
abbrev TI:=St→Hp→(It→Hp→Prop)→Prop
def FT(X:Cx)(pins:List (Addr×Obj))(σ:St)(tg:Expr)(R:It→Hp→Prop)(Be:Value)(s2:Shared):Prop:=
 ∃(it:Addr)(fp:List Addr)(tn:Nat→Heap→Prop)(J:It)(H':Hp),Be= .ref it∧Inv X pins σ H' s2∧Turn X.prog X.w X.K tg J fp it tn∧tn 0 s2.heap∧(∀b∈fp,fB X pins H' b)∧R J H'
def PI(X:Cx)(tg iter:Expr)(wi:TI):Prop:=
 ∀(pins:List (Addr×Obj))(s:Shared)(σ:St)(H:Hp)(R:It→Hp→Prop),Inv X pins σ H s→wi σ H R→
  wpAny (model X.prog X.w) X.A (eval iter X.env) (λv s1=>wpAny (model X.prog X.w) X.A (pyIter v) (FT X pins σ tg R) X.xe s1) X.xe s
theorem uP{M:Model}{A:Around}{E:Value→Shared→Prop}{s:Shared}{tg:Expr}{it:Addr}{u:Value}{o:Obj}{n:String}{vs:Array Value}{Q:Unit→Shared→Prop}(ho:s.heap.get? it=some o)(hc:o.cls= .type n)(hd:o.data= .fields vs)
  (hn: ["enumerate","zip","dict_itemiterator","dict_reverseitemiterator","odict_iterator","itertools.zip_longest","itertools.pairwise"].contains n=false) (hQ:Q () s):wpAny M A (letOwnedTupleGo tg (.ref it) u) Q E s:=by
 unfold letOwnedTupleGo
 cases tg<;>first
  |exact wpAny_pure hQ
  | (cases u<;>first
    |exact wpAny_pure hQ
    | (refine wpAny_bind (wpAny_load ho ?_)
       rw [hc,hd];show wpAny M A (if (["enumerate","zip","dict_itemiterator","dict_reverseitemiterator","odict_iterator","itertools.zip_longest","itertools.pairwise"].contains n&&vs[0]? ==some (rawInt _))=true then _ else _) Q E s;rw [if_neg (by intro h;rw [hn,Bool.false_and] at h;cases h)]
       exact wpAny_pure hQ))
def Dq(K:PySem.W.Frag)(a:Addr):It:=
 ⟨λi H=>∃xs x,bx K H a xs∧xs[i]? =some x,λi H x H'=>H'=H∧∀xs,bx K H a xs→xs[i]? =some x,λi H=>∃xs,bx K H a xs∧xs.length≤i⟩
def AI(lo:Int)(n:Nat):It:=⟨λi _=>i<n,λi H x H'=>H'=H∧x= .int (lo+i),λi _=>n≤i⟩
theorem vQ{P:Program}{w:World}{K:PySem.W.Frag}{tg:Expr}(a it:Addr):Turn P w K tg (Dq K a) [it] it (λi h=>h.IsListIter it a i) where
 mem:=by simp
 obj:=λi h st b hb=>by
  have e:b=it:=by simpa using hb
  subst e;obtain ⟨o,e,c,d⟩:=st;exact ⟨o,e,λv z=>by rw [d] at z;cases z⟩
 keep:=λi h h' st k=>st.at λo e=>k it (by simp) o e
 item:=by
  intro X hP hw hK hc i pins s σ H E I hf st hg;subst hP hw hK;obtain ⟨xs,x,hq,hx⟩:=hg;obtain ⟨its,rv,p,hz⟩:=I.list hq;obtain ⟨u,hu,ru⟩:=rv.get hx;obtain ⟨f0,f1,f2,f3,f4,f5⟩:=hf it (by simp)
  refine wpAny_pyNext_list_item st p.isList (x:=u) (by simpa using hu) λh' so sb=>?_
  have I1:Inv X pins σ H {s with heap:=h'}:=I.turned (t':=s.toks) (λb o hb e=>(sb.2 b hb).trans e) f0 f1 f3 f4 f5
  obtain ⟨o,e,c,d⟩:=id so;exact ⟨u,rfl,uP (s:={s with heap:=h'}) e c d (by decide) ⟨x,H,I1,ru,⟨rfl,λys hy=>by rw [I.mi hy hq];exact hx⟩,so,λb hb=>(hf b hb).1⟩⟩
 done:=by
  intro X hP hw hK hc i pins s σ H E I hf st hg;subst hP hw hK;obtain ⟨xs,hq,hx⟩:=hg;obtain ⟨its,rv,p,hz⟩:=I.list hq;obtain ⟨f0,f1,f2,f3,f4,f5⟩:=hf it (by simp)
  have hl:=rv.length;exact wpAny_pyNext_list_end (I.ok.hd hc) st p.isList (by simp;omega) λh' eb=>⟨rfl,I.turned (t':=s.toks) (λb o hb e=>eb b o hb e) f0 f1 f3 f4 f5⟩
 self:=λ_ _ _ _ _ st h=>wpAny_pyIter_listiter st h
theorem uh{P:Program}{w:World}{K:PySem.W.Frag}{tg:Expr}(it:Addr)(lo:Int)(n:Nat):Turn P w K tg (AI lo n) [it] it (λi h=>IsRangeIter h it (lo+(i:Nat)*1) ((n:Int)-(i:Nat)) 1) where
 mem:=by simp
 obj:=λi h st b hb=>by
  have e:b=it:=by simpa using hb
  subst e
  exact ⟨_,st,λv z=>by
   have z':Data.fields _=Data.cell v:=z;cases z'⟩
 keep:=λi h h' st k=>k it (by simp) _ st
 item:=by
  intro X hP hw hK hc i pins s σ H E I hf st hg;subst hP hw hK;obtain ⟨f0,f1,f2,f3,f4,f5⟩:=hf it (by simp)
  have W:=Walks.range (prog:=X.prog) (w:=X.w) (I.ok.hd hc) it lo 1 n;refine W.item i s _ _ hg st λv h' tk hv so kk=>?_;obtain ⟨t,rfl⟩:=hv;have I1:Inv X pins σ H {s with heap:=h',toks:=tk}:=I.turned (λb o hb e=>kk b o (by simpa using hb) e) f0 f1 f3 f4 f5
  refine ⟨_,rfl,uP (s:={s with heap:=h',toks:=tk}) (n:="range_iterator") so rfl rfl (by decide) ⟨.int (lo+i),H,I1,⟨t,?_⟩,⟨rfl,rfl⟩,so,λb hb=>(hf b hb).1⟩⟩
  rw [Int.mul_one]
 done:=by
  intro X hP hw hK hc i pins s σ H E I hf st hg;subst hP hw hK;obtain ⟨f0,f1,f2,f3,f4,f5⟩:=hf it (by simp)
  exact wpAny_pyNext_range_end (I.ok.hd hc) st (by have:n≤i:=hg;omega) λh' eb=>⟨rfl,I.turned (t':=s.toks) (λb o hb e=>eb b o hb e) f0 f1 f3 f4 f5⟩
 self:=λ_ _ _ _ _ st h=>wpAny_pyIter_rangeiter st h
section
variable {X:Cx} {tg:Expr}
def E1(K:PySem.W.Frag)(tl:TE):TI:=λσ H R=>tl σ H λx H1=>∃a,x= .ref a∧(∃xs,bx K H1 a xs)∧R (Dq K a) H1
theorem tZ{l:Expr}{tl:TE}(hl:PE X l tl):PI X tg l (E1 X.K tl):=by
 intro pins s σ H R I h;refine thn (hl pins s σ H _ I h) λv s1 ⟨x,H1,I1,r1,q1⟩=>?_;obtain ⟨a,e,⟨xs,hq⟩,q⟩:=q1;subst e;cases r1;obtain ⟨its,rv,p,hz⟩:=I1.list hq;refine wpAny_pyIter_list p.isList ?_;refine ⟨s1.heap.objs.size,[s1.heap.objs.size],_,_,H1,rfl,I1.kept (t':=s1.toks) λb o e=>Heap.get?_push_of_some _ e,vQ a _,⟨_,Heap.get?_push_size _ rfl,rfl,rfl⟩,λb hb=>?_,q⟩;have e:b=s1.heap.objs.size:=by simpa using hb
 subst e;exact I1.wc (bC _) (I1.hok.fresh (bC _))
theorem xO{pins:List (Addr×Obj)}{σ:St}{H:Hp}{s:Shared}{R:It→Hp→Prop}{E:Value→Shared→Prop}{lo hi:Int}{t u v:Tok}{tk:Nat}(I:Inv X pins σ H s)(h1: -(2^62)≤lo)(h2:lo<2^62)(h3: -(2^62)≤hi)(h4:hi<2^62)
  (q:R (AI lo (hi-lo).toNat) H):wpAny (model X.prog X.w) X.A (pyIter (.ref s.heap.objs.size)) (FT X pins σ tg R) E {s with heap:=s.heap.push {cls:= .type "range",data:= .fields #[.int lo t, .int hi u, .int 1 v]},toks:=tk}:=by
 refine wpAny_pyIter_range (IsRange.new ..) (small_one h1 h2 h3 h4) ?_;have I1:Inv X pins σ H {s with heap:=s.heap.push {cls:= .type "range",data:= .fields #[.int lo t, .int hi u, .int 1 v]},toks:=tk}:=I.kept λb o e=>Heap.get?_push_of_some _ e
 refine ⟨(s.heap.push {cls:= .type "range",data:= .fields #[.int lo t, .int hi u, .int 1 v]}).objs.size,[(s.heap.push {cls:= .type "range",data:= .fields #[.int lo t, .int hi u, .int 1 v]}).objs.size],_,_,H,rfl,
  I1.kept (t':=tk) λb o e=>Heap.get?_push_of_some _ e,uh _ lo (hi-lo).toNat,?_,λb hb=>?_,q⟩
 ·have e1:lo+((0:Nat):Int)*1=lo:=by simp
  have e2:(((hi-lo).toNat:Nat):Int)-((0:Nat):Int)=Builtin.Range.rangeSize lo hi 1:=by rw [rangeSize_one];split<;>omega
  show IsRangeIter _ _ (lo+((0:Nat):Int)*1) ((((hi-lo).toNat:Nat):Int)-((0:Nat):Int)) 1;rw [e1,e2];exact Heap.get?_push_size _ rfl
 ·have e:b=(s.heap.push {cls:= .type "range",data:= .fields #[.int lo t, .int hi u, .int 1 v]}).objs.size:=by simpa using hb
  subst e;exact I1.wc (bC _) (I1.hok.fresh (bC _))
def E2(ta:TA):TI:=λσ H R=>ta σ H λvs H1=>∃j:Int,vs= [.int j]∧-(2^62)≤j∧j<2^62∧R (AI 0 j.toNat) H1
theorem pI{a:Expr}{ta:TA}{p pos:Pos}(hg:Gl X "range")(hm:X.mg "range"=none)(ha:PA X [a] ta)(hs:starEach [a] X.env= [(false,eval a X.env)]:=by rfl):PI X tg (.Call (.Name "range" p) [a] [] pos) (E2 ta):=by
 intro pins s σ H R I h;refine Call_ (iN I hg hm boot_range (PyProof.Rows.callWith_type1 (thn (ha pos pins s σ H _ I h) λus s1 ⟨vs,H1,I1,r1,q1⟩=>?_) hs rfl));obtain ⟨j,e,q1,q2,q⟩:=q1;subst e;cases r1 with
 |cons r rr=>
  cases rr;obtain ⟨t,rfl⟩:=r;exact call_range_1 (xO I1 (by omega) (by omega) q1 q2 (by simpa using q))
def KQ(wi:TI)(g:TG)(tb:TS):TS:=λD σ H=>wi σ H λJ H1=>∃W:Nat→Nat→St→Hp→Prop,(∃m,W 0 m σ H1)∧∀i m σ H,W i m σ H→
 (J.stop i H∧D.nx σ H)∨(J.go i H∧∃N:St→Hp→Prop,(∀aD H',N aD H'→∃m',m'<m∧W (i+1) m' aD H')∧∀x H',J.yld i H x H'→g x σ H' λgE H2=>tb {D with nx:=N,ct:=N,bk:=D.nx} gE H2)
def lz(fp:List Addr)(h:Heap):List (Addr×Obj):=fp.filterMap λb=>(h.get? b).map λo=>(b,o)
theorem gP{fp:List Addr}{h:Heap}{b:Addr}{o:Obj}(hb:b∈fp)(e:h.get? b=some o):(b,o)∈lz fp h:=List.mem_filterMap.mpr ⟨b,hb,by rw [e];rfl⟩
theorem vw{fp:List Addr}{h:Heap}{p:Addr×Obj}(hp:p∈lz fp h):p.1∈fp∧h.get? p.1=some p.2:=by
 obtain ⟨b,hb,e⟩:=List.mem_filterMap.mp hp;cases q:h.get? b with
 |none=>rw [q] at e;cases e
 |some o=>
  rw [q] at e;have e':(b,o)=p:=Option.some.inj e;subst e';exact ⟨hb,q⟩
theorem Inv.pinned{pins:List (Addr×Obj)}{σ:St}{H:Hp}{s:Shared}{fp:List Addr}(I:Inv X pins σ H s)(hf:∀b∈fp,fB X pins H b)(ho:∀b∈fp,∃o,s.heap.get? b=some o∧∀v,o.data≠ .cell v):Inv X (pins++lz fp s.heap) σ H s:=
 I.lA λp hp=>(b9.mp hp).elim (λz=>I.pin p (dg _ z)) λz=>by
  obtain ⟨hb,e⟩:=vw z;obtain ⟨f0,f1,f2,_⟩:=hf p.1 hb;obtain ⟨o,e',d⟩:=ho p.1 hb;rw [e] at e';cases e';exact ⟨e,f0,f1,f2,d⟩
theorem Inv.jV{pins pl:List (Addr×Obj)}{σ:St}{H:Hp}{s:Shared}(I:Inv X (pins++pl) σ H s):Inv X pins σ H s:=I.lA λp hp=>I.pin p (dg _ (fc _ hp))
theorem sg{iter:Expr}{body:List Stmt}{wi:TI}{g:TG}{tb:TS}{pos:Pos}(hp:PassesOwn (model X.prog X.w) X.A X.env X.xe)(hc:X.calm=true)(hi:PI X tg iter wi)(hg:PG X tg g)(hb:jg X body tb)
  (hs:∀x,foldedSetIterable iter X.env x=pure x:=by intro _;rfl):PS X (.For tg iter body [] pos) (KQ wi g tb):=by
 intro pins s σ H D I h;refine wpAny_For (thn (hi pins s σ H _ I h) λv s1 h1=>thn h1 λBe s2 h2=>?_) hs;obtain ⟨it,fp,tn,J,H2,e,I2,T,qh,f2,W,⟨m0,w0⟩,turn⟩:=h2;subst e;have stat:∀{H':Hp},(∀b∈fp,H' b=none)→∀b∈fp,fB X pins H' b:=λhn b hb=>⟨hn b hb,(f2 b hb).2⟩;refine codeAny_forLoop_any (λn s'=>∃i aD H',Inv X pins aD H' s'∧tn i s'.heap∧(∀b∈fp,H' b=none)∧W i n aD H') ?_ m0 ⟨0,σ,H2,I2,qh,λb hb=>(f2 b hb).1,w0⟩;rintro n s3 ⟨i,nN,H3,I3,As,Hx,w3⟩
 rcases turn i n nN H3 w3 with ⟨stop,qn⟩ | ⟨go,N,hN,step⟩
 ·refine wpAny_passesOwn hp (thn (T.done X rfl rfl rfl hc i pins s3 nN H3 X.xe I3 (stat Hx) As stop) λr s4 ⟨hr,I4⟩=>?_)
  subst hr;exact wpAny_execs_nil ⟨nN,H3,I4,qn⟩
 ·refine wpAny_passesOwn hp (thn (T.item X rfl rfl rfl hc i pins s3 nN H3 X.xe I3 (stat Hx) As go) λr s4 ⟨u,hr,h4⟩=>?_)
  subst hr;refine wpAny_passesOwn hp (thn h4 λ_ s5 ⟨x,H5,I5,r5,y5,xW,A5⟩=>?_);have Dl:=I5.pinned (stat A5) (T.obj _ _ xW);refine wpAny_passesOwn hp (thn (hg _ s5 nN H5 x u _ Dl r5 (step x H5 y5)) λ_ s6 ⟨QS,H6,I6,q6⟩=>?_);refine wpAny_passesOwn hp (thn (hb _ s6 QS H6 _ I6 q6) λf s7 q7=>?_)
  have again:∀{p5:St}{H7:Hp},Inv X (pins++lz fp s5.heap) p5 H7 s7→N p5 H7→∃m,m<n∧∃i aD H',Inv X pins aD H' s7∧tn i s7.heap∧(∀b∈fp,H' b=none)∧W i m aD H':=λ {p5 H7} I7 n7=>by
   obtain ⟨m',hm,w7⟩:=hN p5 H7 n7;refine ⟨m',hm,i+1,p5,H7,I7.jV,T.keep _ _ _ xW λb hb o e=>(I7.pin (b,o) (dg _ (dg _ (gP hb e)))).1,λb hb=>?_,w7⟩;obtain ⟨o,e,d⟩:=T.obj _ _ xW b hb;exact (I7.pin (b,o) (dg _ (dg _ (gP hb e)))).2.1
  cases f with
  |next=>obtain ⟨p5,H7,I7,n7⟩:=q7;exact again I7 n7
  |cont=>obtain ⟨p5,H7,I7,n7⟩:=q7;exact again I7 n7
  |brk=>obtain ⟨p5,H7,I7,q7⟩:=q7;exact ⟨p5,H7,I7.jV,q7⟩
  |ret v=>obtain ⟨x7,p5,H7,I7,r7,q7⟩:=q7;exact ⟨x7,p5,H7,I7.jV,r7,q7⟩
end
abbrev R2:=V→V→Hp→VK→Prop
def OpR(X:Cx)(f:Value→Value→Sem Value)(r:R2):Prop:=
 ∀(pins:List (Addr×Obj))(s:Shared)(σ:St)(H:Hp)(x y:V)(v u:Value)(Q:VK),Inv X pins σ H s→RelV x v→RelV y u→r x y H Q→
  wpAny (model X.prog X.w) X.A (f v u) (EP X pins σ Q) X.xe s
def cU(X:Cx)(f:Value)(r:List V→Hp→VK→Prop):Prop:=
 ∀(pins:List (Addr×Obj))(s:Shared)(σ:St)(H:Hp)(xs:List V)(us:List Value)(Q:VK),Inv X pins σ H s→Vals xs us→r xs H Q→
  wpAny (model X.prog X.w) X.A (call f us) (EP X pins σ Q) X.xe s
def FU(X:Cx)(r:V→Hp→(Bool→Hp→Prop)→Prop):Prop:=
 ∀(pins:List (Addr×Obj))(s:Shared)(σ:St)(H:Hp)(x:V)(v:Value)(Q:Bool→Hp→Prop),Inv X pins σ H s→RelV x v→r x H Q→
  wpAny (model X.prog X.w) X.A (truthy v) (TP X pins σ Q) X.xe s
def Az(r:R2)(ta tb:TE):TE:=λσ H Q=>ta σ H λx H1=>tb σ H1 λy H2=>r x y H2 Q
def rI(C:Int→Int→Prop)(g:Int→Int→V):R2:=λx y H Q=>∃i j,x= .int i∧y= .int j∧C i j∧Q (g i j) H
def si(g:Int→Int→V):R2:=λx y H Q=>∃i j,x= .int i∧y= .int j∧Q (g i j) H
section
variable {X:Cx} {a b c:Expr} {ta tb tc:TE} {pos:Pos}
theorem yi(ha:PE X a ta)(hb:PE X b tb){pins:List (Addr×Obj)}{s:Shared}{σ:St}{H:Hp}{R:V→V→Hp→Prop}(I:Inv X pins σ H s)
  (h:ta σ H λx H1=>tb σ H1 λy H2=>R x y H2) {Q:Value→Shared→Prop} {f:Value→Value→Sem Value}
  (hf:∀v u s2 x y H2,Inv X pins σ H2 s2→RelV x v→RelV y u→R x y H2→wpAny (model X.prog X.w) X.A (f v u) Q X.xe s2):
  wpAny (model X.prog X.w) X.A (eval a X.env) (λv s₁=>wpAny (model X.prog X.w) X.A (eval b X.env) (λu wH=>wpAny (model X.prog X.w) X.A (f v u) Q X.xe wH) X.xe s₁) X.xe s:=by
 refine thn (ha pins s σ H _ I h) λv s1 ⟨x,H1,I1,r1,q1⟩=>?_;refine thn (hb pins s1 σ H1 _ I1 q1) λu s2 ⟨y,H2,I2,r2,q2⟩=>?_;exact hf v u s2 x y H2 I2 r1 r2 q2
theorem r6{op:Operator}{r:R2}(ho:OpR X (binaryOp op) r)(ha:PE X a ta)(hb:PE X b tb):PE X (.BinOp a op b pos) (Az r ta tb):=by
 intro pins s σ H Q I h;exact wpAny_BinOp (yi ha hb I h λv u s2 x y H2 I2 rx ry q=>ho pins s2 σ H2 x y v u Q I2 rx ry q)
theorem Bw{f:Value→Value→Sem Value}{C:Int→Int→Prop}{g:Int→Int→Int}
  (rule:∀(i j:Int)(t u:Tok)(s:Shared)(Q:Value→Shared→Prop)(E:Value→Shared→Prop),C i j→Q (.int (g i j) s.toks) {s with toks:=s.toks+1}→wpAny (model X.prog X.w) X.A (f (.int i t) (.int j u)) Q E s):
  OpR X f (rI C λi j=> .int (g i j)):=by
 intro pins s σ H x y v u Q I rx ry h;obtain ⟨i,j,rfl,rfl,hc,q⟩:=h;obtain ⟨t,rfl⟩:=rx;obtain ⟨t',rfl⟩:=ry;exact rule i j t t' s _ _ hc ⟨.int (g i j),H,I.tok _,⟨_,rfl⟩,q⟩
theorem Dd{f:Value→Value→Sem Value}{g:Int→Int→Int}
  (rule:∀(i j:Int)(t u:Tok)(s:Shared)(Q:Value→Shared→Prop)(E:Value→Shared→Prop),Q (.int (g i j) s.toks) {s with toks:=s.toks+1}→wpAny (model X.prog X.w) X.A (f (.int i t) (.int j u)) Q E s):
  OpR X f (si λi j=> .int (g i j)):=by
 intro pins s σ H x y v u Q I rx ry h;obtain ⟨i,j,rfl,rfl,q⟩:=h;obtain ⟨t,rfl⟩:=rx;obtain ⟨t',rfl⟩:=ry;exact rule i j t t' s _ _ ⟨.int (g i j),H,I.tok _,⟨_,rfl⟩,q⟩
theorem zM{f:Value→Value→Sem Value}{g:Int→Int→Bool}
  (rule:∀(i j:Int)(t u:Tok)(s:Shared)(Q:Value→Shared→Prop)(E:Value→Shared→Prop),Q (.bool (g i j)) s→wpAny (model X.prog X.w) X.A (f (.int i t) (.int j u)) Q E s):
  OpR X f (si λi j=> .bl (g i j)):=by
 intro pins s σ H x y v u Q I rx ry h;obtain ⟨i,j,rfl,rfl,q⟩:=h;obtain ⟨t,rfl⟩:=rx;obtain ⟨t',rfl⟩:=ry;exact rule i j t t' s _ _ ⟨.bl (g i j),H,I,rfl,q⟩
def Cj(i j:Int):Prop:=0<j∧j<1073741824
def Ck(i j:Int):Prop:=0≤j∧j≤1000000∧i.natAbs<2^64
def vT(i j:Int):Prop:=(-(2^64)<i∧i<2^64)∨(-(2^64)<j∧j<2^64)
theorem vT.ok{i j:Int}(h:vT i j):IntMulOk i j:=by
 rcases h with ⟨h1,h2⟩ | ⟨h1,h2⟩
 ·exact .of_left (intBits_le_64 h1 h2)
 ·exact .of_right (intBits_le_64 h1 h2)
theorem Bx:OpR X (binaryOp .Add) (si λi j=> .int (i+j)):=Dd λ_ _ _ _ _ _ _ q=>add_int q
theorem BE:OpR X (binaryOp .Sub) (si λi j=> .int (i-j)):=Dd λ_ _ _ _ _ _ _ q=>sub_int q
theorem BB:OpR X (binaryOp .Mult) (rI vT λi j=> .int (i*j)):=Bw λ_ _ _ _ _ _ _ hc q=>mul_int q hc.ok
theorem zO:OpR X (binaryOp .FloorDiv) (rI Cj λi j=> .int (i / j)):=Bw λi j _ _ _ _ _ hc q=>by
 have h1:(0:Int)<j:=hc.1;have h2:j<1073741824:=hc.2;exact floordiv_int (by omega) (by rw [Int.fdiv_eq_ediv_of_nonneg i (by omega)];exact q) (.inl (PyProof.noPylong_small (by omega)))
theorem BA:OpR X (binaryOp .Mod) (rI (λ_ j=>0<j) λi j=> .int (i%j)):=Bw λi j _ _ _ _ _ hc q=>by
 have h1:(0:Int)<j:=hc;exact mod_int' (by omega) (by rw [Int.fmod_eq_emod_of_nonneg i (by omega)];exact q)
theorem BD:OpR X (binaryOp .Pow) (rI Ck λi j=> .int (i^j.toNat)):=Bw λ_ _ _ _ _ _ _ hc q=>pow_int_small hc.1 hc.2.1 hc.2.2 q
end
section
variable {X:Cx} {a b c:Expr} {ta tb tc:TE} {pos:Pos}
theorem wb{pins:List (Addr×Obj)}{σ:St}{H:Hp}{s:Shared}{Q:VK}{k k':Bool}(I:Inv X pins σ H s)(q:Q (.bl k) H)(e:k=k'):EP X pins σ Q (.bool k') s:=by
 subst e;exact ⟨.bl k,H,I,rfl,q⟩
theorem Fe:OpR X (compareOp .Lt) (si λi j=> .bl (decide (i<j))):=zM λ_ _ _ _ _ _ _ q=>lt_int q
theorem Fd:OpR X (compareOp .LtE) (si λi j=> .bl (decide (i≤j))):=zM λ_ _ _ _ _ _ _ q=>le_int q
theorem Fc:OpR X (compareOp .Gt) (si λi j=> .bl (decide (j<i))):=zM λ_ _ _ _ _ _ _ q=>gt_int q
theorem Bz:OpR X (compareOp .Is) (λx y H Q=>y= .aN∧Q (.bl (decide (x= .aN))) H):=by
 intro pins s σ H x y v u Q I rx ry h;obtain ⟨rfl,q⟩:=h;cases ry;refine is_none_gen (wb I q ?_)
 cases x<;>first
  | (cases rx;rfl)
  | (obtain ⟨t,rfl⟩:=rx;rfl)
theorem zP:OpR X (compareOp .IsNot) (λx y H Q=>y= .aN∧Q (.bl (!decide (x= .aN))) H):=by
 intro pins s σ H x y v u Q I rx ry h;obtain ⟨rfl,q⟩:=h;cases ry;refine isnot_none_gen (wb I q ?_)
 cases x<;>first
  | (cases rx;rfl)
  | (obtain ⟨t,rfl⟩:=rx;rfl)
theorem OpR.or{f:Value→Value→Sem Value}{r r':R2}(h:OpR X f r)(h':OpR X f r'):OpR X f (λx y H Q=>r x y H Q∨r' x y H Q):=by
 intro pins s σ H x y v u Q I rx ry q
 rcases q with q|q
 ·exact h pins s σ H x y v u Q I rx ry q
 ·exact h' pins s σ H x y v u Q I rx ry q
theorem bf(b:Expr){op:CmpOp}(h:op≠ .In:=by decide)(h2:op≠ .NotIn:=by decide):behindInMarks op b=false:=by
 have e1:(op==CmpOp.In)=false:=by cases op<;>first|rfl|exact absurd rfl h
 have e2:(op==CmpOp.NotIn)=false:=by cases op<;>first|rfl|exact absurd rfl h2
 cases b<;>simp [behindInMarks,e1,e2]
theorem zR{op:CmpOp}{r:R2}(ho:OpR X (compareOp op) r)(ha:PE X a ta)(hb:PE X b tb)(hm:behindInMarks op b=false):PE X (.Compare a [op] [b] pos) (Az r ta tb):=by
 intro pins s σ H Q I h;exact wpAny_Compare1 (yi ha hb I h λv u s2 x y H2 I2 rx ry q=>ho pins s2 σ H2 x y v u Q I2 rx ry q) hm
def vN(t:TE):TT:=λσ H Q=>t σ H λx H'=>∃k,x= .bl k∧Q k H'
theorem z5{op:CmpOp}{r:R2}(ho:OpR X (compareOp op) r)(ha:PE X a ta)(hb:PE X b tb)(hm:behindInMarks op b=false):PT X (.Compare a [op] [b] pos) (vN (Az r ta tb)):=by
 intro pins s σ H Q I h
 refine wpAny_isTrue_Compare1 (thn (ha pins s σ H _ I h) λv s1 ⟨x,H1,I1,r1,q1⟩=>thn (hb pins s1 σ H1 _ I1 q1) λu s2 ⟨y,H2,I2,r2,q2⟩=>
  thn (ho pins s2 σ H2 x y v u _ I2 r1 r2 q2) λc s3 ⟨z,H3,I3,r3,k,e,q3⟩=>?_) hm
 subst e;cases r3;exact wpAny_truthy_bool ⟨H3,I3,q3⟩
def su(r r':R2)(ta tb tc:TE):TE:=λσ H Q=>ta σ H λx H1=>tb σ H1 λy H2=>r x y H2 λz H3=>∃k,z= .bl k∧
 (if k=true then tc σ H3 λw' H4=>r' y w' H4 Q else Q (.bl false) H3)
theorem xE{op kC:CmpOp}{r r':R2}(ho:OpR X (compareOp op) r)(gX:OpR X (compareOp kC) r')(ha:PE X a ta)(hb:PE X b tb)(hc:PE X c tc)
  (hm:lastMarks [op,kC] [b,c]=false:=by with_unfolding_all rfl):PE X (.Compare a [op,kC] [b,c] pos) (su r r' ta tb tc):=by
 intro pins s σ H Q I h
 refine Compare_chain (thn (ha pins s σ H _ I h) λv s1 ⟨x,H1,I1,r1,q1⟩=>chain_link (thn (hb pins s1 σ H1 _ I1 q1) λu s2 ⟨y,H2,I2,r2,q2⟩=>
  thn (ho pins s2 σ H2 x y v u _ I2 r1 r2 q2) λd s3 ⟨z,H3,I3,r3,k,e,q3⟩=>?_)) hm
 subst e;cases r3;refine wpAny_truthy_bool ?_;cases k with
 |false=>exact ite_ff ⟨.bl false,H3,I3,rfl,q3⟩
 |true=>exact ite_tt (chain_last (thn (hc pins s3 σ H3 _ I3 q3) λw' s4 ⟨z',H4,I4,r4,q4⟩=>gX pins s4 σ H4 y z' u w' Q I4 r2 r4 q4))
theorem xM{op kC:CmpOp}{r r':R2}(ho:OpR X (compareOp op) r)(gX:OpR X (compareOp kC) r')(ha:PE X a ta)(hb:PE X b tb)(hc:PE X c tc)
  (hm:lastMarks [op,kC] [b,c]=false:=by with_unfolding_all rfl):PT X (.Compare a [op,kC] [b,c] pos) (vN (su r r' ta tb tc)):=by
 intro pins s σ H Q I h
 refine isTrue_chain (thn (ha pins s σ H _ I h) λv s1 ⟨x,H1,I1,r1,q1⟩=>test_link (thn (hb pins s1 σ H1 _ I1 q1) λu s2 ⟨y,H2,I2,r2,q2⟩=>
  thn (ho pins s2 σ H2 x y v u _ I2 r1 r2 q2) λd s3 ⟨z,H3,I3,r3,k,e,q3⟩=>?_)) hm
 subst e;cases r3;refine wpAny_truthy_bool ?_;cases k with
 |false=>
  obtain ⟨k',e',q'⟩:=q3;cases e';exact ite_ff ⟨H3,I3,q'⟩
 |true=>
  refine ite_tt (test_last (thn (hc pins s3 σ H3 _ I3 q3) λw' s4 ⟨z',H4,I4,r4,q4⟩=>thn (gX pins s4 σ H4 y z' u w' _ I4 r2 r4 q4) λd' s5 ⟨z2,H5,I5,r5,k2,e2,q5⟩=>?_));subst e2;cases r5;exact wpAny_truthy_bool ⟨H5,I5,q5⟩
def Co(K:PySem.W.Frag)(x:V)(H:Hp)(k:Bool):Prop:=
 match x with
 | .aN=>k=false
 | .bl b=>k=b
 | .int i=>k=(i !=0)
 | .str y=>y.length≤sizeLine∧k=((y.length:Int) !=0)
 | .wX y=>y.size≤sizeLine∧k=((y.size:Int) !=0)
 | .ref p=>(∃xs,bx K H p xs∧k= !xs.isEmpty)∨(∃xs,dH K H p xs∧k= !xs.isEmpty)∨∃ck,H p=some (.dK ck)∧k= !ck.isEmpty
 |_=>False
theorem tI{κ:Type}{ck:List (κ×V)}{vs:List (κ×Value)}(r:KV ck vs):(!vs.isEmpty)= !ck.isEmpty:=by
 cases r<;>rfl
theorem mS{xs:List V}{its:List Value}(r:Vals xs its):(!its.toArray.isEmpty)= !xs.isEmpty:=by
 cases r<;>simp
theorem jP:(sizeLine:Nat)<2^63:=by rw [sizeLine_eq];decide
theorem Cd:FU X (λx H Q=>∃k,Co X.K x H k∧Q k H):=by
 intro pins s σ H x v Q I rx h;obtain ⟨k,e,q⟩:=h;have hl:=jP;have hs:sizeLine=16777216:=sizeLine_eq;cases x with
 |aN=>
  cases rx;have e':k=false:=e;subst e';exact truthy_none ⟨H,I,q⟩
 |bl b=>
  cases rx;have e':k=b:=e;subst e';exact wpAny_truthy_bool ⟨H,I,q⟩
 |int i=>
  obtain ⟨t,rfl⟩:=rx;have e':k=(i !=0):=e;subst e';exact PySem.P.truthy_int ⟨H,I,q⟩
 |str y=>
  obtain ⟨t,rfl⟩:=rx;obtain ⟨hy,e'⟩:y.length≤sizeLine∧k=((y.length:Int) !=0):=e;subst e';exact PySem.P.truthy_str (by omega) ⟨H,I.tok _,q⟩
 |wX y=>
  obtain ⟨t,rfl⟩:=rx;obtain ⟨hy,e'⟩:y.size≤sizeLine∧k=((y.size:Int) !=0):=e;subst e';exact PySem.W.truthy_bytes (by omega) ⟨H,I.tok _,q⟩
 |ref p=>
  cases rx;have e':(∃xs,bx X.K H p xs∧k= !xs.isEmpty)∨(∃xs,dH X.K H p xs∧k= !xs.isEmpty)∨∃ck,H p=some (.dK ck)∧k= !ck.isEmpty:=e
  rcases e' with ⟨xs,hx,e'⟩ | ⟨xs,hx,e'⟩ | ⟨ck,hx,e'⟩
  ·subst e'
   obtain ⟨its,r,pl,hz⟩:=I.list hx;have hlen:=r.length;exact wpAny_truthy_list pl.isList (by simp only [dM];omega) ⟨H,I.tok _,by rw [mS r];exact q⟩
  ·subst e'
   obtain ⟨its,r,pl,hz⟩:=I.tuple hx;have hlen:=r.length;exact truthy_tuple pl (by simp only [dM];omega) ⟨H,I.tok _,by rw [mS r];exact q⟩
  ·subst e'
   obtain ⟨hz,hS,vs,r,m⟩:ck.length≤sizeLine∧(p==sysModules)=false∧∃vs,KV ck vs∧s.heap.DictOf (o9 X.prog X.w) p vs:=I.hok p _ hx;have hlen:ck.length=vs.length:=Paired.length r;exact wpAny_truthy_dict hS m (by omega) ⟨H,I.tok _,by rw [tI r];exact q⟩
 |_=>exact (show False from e).elim
theorem xN(ha:PE X a ta)(he:∀whole,isTrue a X.env whole=(do let v ←whole;standAt a.pos;holding [v] (truthy v))):
  PT X a (λσ H Q=>ta σ H λx H'=>∃k,Co X.K x H' k∧Q k H'):=by
 intro pins s σ H Q I h;exact isTrue_plain (thn (ha pins s σ H _ I h) λv s1 ⟨x,H1,I1,r1,q1⟩=>Cd pins s1 σ H1 x v Q I1 r1 q1) (he _)
theorem vals1{x:V}{us:List Value}(r:Vals [x] us):∃u,us= [u]∧RelV x u:=by
 cases r with
 |cons r1 r2=>cases r2;exact ⟨_,rfl,r1⟩
theorem vals2{x y:V}{us:List Value}(r:Vals [x,y] us):∃u w',us= [u,w']∧RelV x u∧RelV y w':=by
 cases r with
 |cons r1 r2=>
  cases r2 with
  |cons r3 r4=>cases r4;exact ⟨_,_,rfl,r1,r3⟩
theorem uF(hc:X.calm=true):cU X (.builtin "max") (λxs H Q=>∃i j,xs= [.int i, .int j]∧Q (.int (if j>i then j else i)) H):=by
 intro pins s σ H xs us Q I r h;obtain ⟨i,j,rfl,q⟩:=h;obtain ⟨u,w',rfl,⟨t,rfl⟩,⟨t',rfl⟩⟩:=vals2 r;refine max_two_ints (I.ok.hd hc) λh' tk k=>⟨_,H,I.kept k,?_,q⟩
 by_cases hj:j>i
 ·rw [if_pos hj,if_pos hj];exact ⟨_,rfl⟩
 ·rw [if_neg hj,if_neg hj];exact ⟨_,rfl⟩
end
structure n4 (h:Heap) (x dx C:Addr) (mA:Str→Option Value):Prop where
 obj:h.get? x=some (PySem.W.instObj C dx)
 ns:h.Ns1 dx mA
 ne:dx≠x
theorem vh{h:Heap}{dx:Addr}{mA:Str→Option Value}(n:h.Ns1 dx mA):∃od,h.get? dx=some od∧∀name,PySem.W.lookIn name od=some (mA name):=by
 obtain ⟨o,es,ep,ho,hd,hk,_,hm⟩:=n;refine ⟨o,ho,λname=>?_⟩;have e:=hm name;unfold nsFind findBy at e;rw [←Array.find?_toList] at e;unfold PySem.W.lookIn;rw [hd];dsimp only
 split
 ·rename_i y q
  rw [q] at e;exact congrArg some e
 ·rename_i q
  rw [q] at e
  have a:es.toList.any (·.refKey)=false:=by
   rw [List.any_eq_false];intro y hy;obtain ⟨z,t,wd⟩:=hk y (Array.mem_toList_iff.mp hy);simp [DictEntry.refKey,wd]
  have a':¬es.toList.any (·.refKey)=true:=by rw [a];exact b8
  rw [if_neg a'];exact congrArg some e
theorem n4.look{h:Heap}{x dx C:Addr}{mA:Str→Option Value}(I:n4 h x dx C mA):∃od,PySem.W.InstAt h x (PySem.W.instObj C dx) C (some od)∧∀name,PySem.W.lookIn name od=some (mA name):=
 let ⟨od,ho,hl⟩:=vh I.ns
 ⟨od,⟨I.obj,rfl,rfl,ho⟩,hl⟩
section
variable {prog:Program} {w:World} {A:Around} {E:Value→Shared→Prop} {s:Shared} {K:PySem.W.Frag} {x dx C f:Addr} {mA:Str→Option Value} {name:Str} {v:Value}
theorem get_map{expr:Bool}{Q:Value→Shared→Prop}(X:K.In s.heap)(I:n4 s.heap x dx C mA)(hg:PySem.W.plainGet K C name=true)(hh:PySem.W.hasDictIn K C=true)
  (ha:PySem.W.findIn K (.ref C) name=some none) (hv:mA name=some v) (zk:PySem.W.handedIn v=true) (h:Q v {s with toks:=s.toks+1}):
  wpAny (model prog w) A (getAttr (.ref x) name expr) Q E s:=by
 obtain ⟨od,J,hl⟩:=I.look;exact PySem.W.get_value X J (PySem.W.plainGet_of hg).1 (PySem.W.findObj_own hh ha rfl (by rw [hl,hv])) zk h
theorem xj{pl:Sem Bool}{Q:Value×List Value→Shared→Prop}(X:K.In s.heap)(I:n4 s.heap x dx C mA)(hg:PySem.W.plainGet K C name=true)
  (hf:PySem.W.findIn K (.ref C) name=some (some (.ref f))) (ht:PySem.W.isFn K (.ref f)=true) (hv:mA name=none) (h:Q (.ref f,[.ref x]) s):
  wpAny (model prog w) A (getMethod (.ref x) name pl) Q E s:=by
 obtain ⟨od,J,hl⟩:=I.look;exact PySem.W.method_fn X J (PySem.W.plainGet_of hg).1 (PySem.W.plainGet_of hg).2 hf (beq_iff_eq.mp ht) (by show (PySem.W.lookIn name od).map (·.isSome)=some false;rw [hl,hv];rfl) h
theorem Ai{ns:List Str}{Q:Unit→Shared→Prop}(X:K.In s.heap)(I:n4 s.heap x dx C mA)
  (hs:PySem.W.findIn K (.ref C) "__setattr__"=some (some (.builtin "object.__setattr__"))) (hp:PySem.W.plainOver K C=true) (ht:PySem.W.takerIn K C name=some none) (hh:PySem.W.hasDictIn K C=true)
  (hw:PySem.Within mA ns) (tH:ns.length≤sizeLine)
  (h:∀h',n4 h' x dx C (λy=>if y=name then some v else mA y)→Heap.SameBut dx s.heap h'→Q () {s with heap:=h',toks:=s.toks+2}):
  wpAny (model prog w) A (setAttr (.ref x) name v) Q E s:=by
 obtain ⟨od,J,hl⟩:=I.look;refine PySem.W.set_plain X J hs (PySem.W.osa_open (s:={s with toks:=s.toks+1}) (r:=none) X J hp ht λb=>?_)
 obtain ⟨cd,hc,jo⟩:=PySem.W.any_some hh;have hx:s.heap.get? x=some ⟨.ref C,some dx, .plain, #[]⟩:=I.obj;refine wpAny_bind (wpAny_pure (wpAny_bind (wpAny_bind (wpAny_loadPart hx (wpAny_bind (PySem.W.Looks.here (s:={s with toks:=s.toks+1}) (PySem.W.looks_clsIn X hc) ?_))))))
 rw [jo];refine wpAny_pure (a:=some dx) (wpAny_bind (wpAny_pure (wpAny_bind ?_)));refine wpAny_nsSet1 (s:={s with toks:=s.toks+1}) I.ns λh' A9 tF=>?_
 obtain ⟨oD,Ra,Q9,Np,MV,MT⟩:=A9.count (PySem.Within.cons name v hw);refine wpAny_bind (wpAny_lookBehind Np (by rw [MV];exact pastItsLine_dict (jG MT (by rw [dW];omega))) ?_)
 exact wpAny_pure (h _ ⟨(tF.2 _ (Ne.symm I.ne)).trans I.obj,A9,I.ne⟩ tF)
theorem xB{R:Result→Shared→Prop}{vs:List Value}{kw:List (Str×Value)}(X:K.In s.heap)(hm:PySem.W.makesIn K C=true)
  (hi:PySem.W.findIn K (.ref C) "__init__"=some (some (.ref f))) (hf:PySem.W.typeIn K (.ref f)=some (.type "function"))
  (h:codeAny (model prog w) (A.under (.builtin "type.__call__" ⟨.ref C::vs,kw⟩)) (.call (.ref f) ⟨.ref (s.heap.objs.size+1)::vs,kw⟩) (PySem.W.InitBack (s.heap.objs.size+1) R)
   {s with heap:=(s.heap.push PySem.W.emptyDict).push (PySem.W.instObj C s.heap.objs.size)}):
  codeAny (model prog w) A (.call (.ref C) ⟨vs,kw⟩) R s:=by
 obtain ⟨hh,g,d,t,os⟩:=s;exact PySem.W.make_core (PySem.W.makes_of X hm) (PySem.W.looks_findIn X hi) (λself=>PySem.W.bind_fn X self hf) (.inl rfl) h
end
def fF(f:Str)(v:V):List (Str×V)→List (Str×V)
 | []=> [(f,v)]
 | (g,x)::r=>if g=f then (g,v)::r else (g,x)::fF f v r
theorem lg(f g:Str)(v:V):∀fs:List (Str×V),(fF f v fs).lookup g=if g=f then some v else fs.lookup g
 | []=>by
  show List.lookup g [(f,v)]=_
  by_cases h:g=f
  ·have hb:(g==f)=true:=beq_iff_eq.mpr h
   simp only [List.lookup,hb,if_pos h]
  ·have hb:(g==f)=false:=beq_eq_false_iff_ne.mpr h
   simp only [List.lookup,hb,if_neg h]
 | (k,x)::r=>by
  have ih:=lg f g v r;rw [show fF f v ((k,x)::r)=(if k=f then (k,v)::r else (k,x)::fF f v r) from rfl]
  by_cases hk:k=f
  ·rw [if_pos hk]
   by_cases h:g=k
   ·have hb:(g==k)=true:=beq_iff_eq.mpr h
    simp only [List.lookup,hb,if_pos (h.trans hk)]
   ·have hb:(g==k)=false:=beq_eq_false_iff_ne.mpr h
    simp only [List.lookup,hb,if_neg (λe:g=f=>h (e.trans hk.symm))]
  ·rw [if_neg hk]
   by_cases h:g=k
   ·have hb:(g==k)=true:=beq_iff_eq.mpr h
    simp only [List.lookup,hb,if_neg (λe:g=f=>hk (h.symm.trans e))]
   ·have hb:(g==k)=false:=beq_eq_false_iff_ne.mpr h
    simp only [List.lookup,hb];exact ih
theorem kq(f:Str)(v:V):∀fs:List (Str×V),f∈(fF f v fs).map (·.1)∧∀g,g∈fs.map (·.1)→g∈(fF f v fs).map (·.1)
 | []=>⟨by simp [fF],λg h=>by simp at h⟩
 | (k,x)::r=>by
  obtain ⟨i1,i2⟩:=kq f v r;rw [show fF f v ((k,x)::r)=(if k=f then (k,v)::r else (k,x)::fF f v r) from rfl]
  by_cases hk:k=f
  ·rw [if_pos hk]
   subst hk;exact ⟨by simp,λg h=>by simpa using h⟩
  ·rw [if_neg hk]
   refine ⟨?_,λg h=>?_⟩
   ·rw [i9]
    exact fg _ i1
   ·rw [i9] at h ⊢
    rcases cF.mp h with e|e
    ·exact cF.mpr (.inl e)
    ·exact fg _ (i2 g e)
theorem lb(f:Str)(v:V):∀fs:List (Str×V),(fF f v fs).length≤fs.length+1
 | []=>by simp [fF]
 | (k,x)::r=>by
  have ih:=lb f v r;rw [show fF f v ((k,x)::r)=(if k=f then (k,v)::r else (k,x)::fF f v r) from rfl]
  by_cases hk:k=f
  ·rw [if_pos hk,dW,dW];omega
  ·rw [if_neg hk,dW,dW];omega
theorem jY.some_of{v:V}{o:Option Value}(r:jY (some v) o):∃u,o=some u∧RelV v u:=by
 cases o with
 |none=>exact (show False from r).elim
 |some u=>exact ⟨u,rfl,r⟩
theorem jY.none_of{o:Option Value}(r:jY none o):o=none:=by
 cases o with
 |none=>rfl
 |some u=>exact (show False from r).elim
theorem uS{v:V}{u:Value}(r:RelV v u):PySem.W.handedIn u=true:=by
 cases v with
 |aN=>cases (show u=Value.none from r);rfl
 |bl b=>cases (show u=Value.bool b from r);rfl
 |int i=>obtain ⟨t,e⟩:=(show ∃t,u=Value.int i t from r);cases e;rfl
 |str x=>obtain ⟨t,e⟩:=(show ∃t,u=Value.str x t from r);cases e;rfl
 |wX b=>obtain ⟨t,e⟩:=(show ∃t,u=Value.bytes b t from r);cases e;rfl
 |uN b=>obtain ⟨t,e⟩:=(show ∃t,u=Value.float b t from r);cases e;rfl
 |ref a=>cases (show u=Value.ref a from r);rfl
 |ty n=>cases (show u=Value.type n from r);rfl
section
variable {P:Program} {w:World} {H H':Hp} {h h':Heap} {a C dx:Addr} {fs MI:List (Str×V)}
theorem kW(hok:fI P w H h)(e:H a=some (.ins C dx fs)):∃mA,n4 h a dx C mA∧(∀f,jY (fs.lookup f) (mA f))∧PySem.Within mA (fs.map (·.1))∧fs.length≤1000∧H dx=some (.own a):=by
 obtain ⟨d,z,ne,ob,mA,n,r,q⟩:=(show bL P w H h a (.ins C dx fs) from hok a _ e);exact ⟨mA,⟨ob,n,ne⟩,r,q,z,d⟩
end
structure p6 (K:PySem.W.Frag) (C:Addr):Prop where
 pg:PySem.W.plainGet K C Str.empty=true
 hd:PySem.W.hasDictIn K C=true
 po:PySem.W.plainOver K C=true
 sa:PySem.W.findIn K (.ref C) "__setattr__"=some (some (.builtin "object.__setattr__"))
theorem p6.get{K:PySem.W.Frag}{C:Addr}(c:p6 K C)(f:Str):PySem.W.plainGet K C f=true:=c.pg
def iJ(K:PySem.W.Frag)(C:Addr)(f:Str):Prop:=PySem.W.findIn K (.ref C) f=some none
theorem iJ.FG{K:PySem.W.Frag}{C:Addr}{f:Str}(n:iJ K C f):PySem.W.takerIn K C f=some none:=by
 unfold PySem.W.takerIn;rw [show PySem.W.findIn K (.ref C) f=some none from n];rfl
structure Meth (K:PySem.W.Frag) (C:Addr) (m:Str) (f:Addr):Prop where
 at_:PySem.W.findIn K (.ref C) m=some (some (.ref f))
 fn:PySem.W.isFn K (.ref f)=true
 kp:PySem.W.keepIn K (.ref f)=true
section
variable {X:Cx} {pins:List (Addr×Obj)} {σ:St} {H:Hp} {s:Shared} {a C dx:Addr} {fs:List (Str×V)} {f:Str} {v:V} {A:Around} {E:Value→Shared→Prop}
theorem tx{b:Bool}{Q:Value→Shared→Prop}(I:Inv X pins σ H s)(e:H a=some (.ins C dx fs))(c:p6 X.K C)(n:iJ X.K C f)(l:fs.lookup f=some v)
  (h:∀u s',Inv X pins σ H s'→RelV v u→Q u s'):wpAny (model X.prog X.w) A (getAttr (.ref a) f b) Q E s:=by
 obtain ⟨mA,O,r,_,_,_⟩:=kW I.hok e;obtain ⟨u,hu,ru⟩:=jY.some_of (v:=v) (o:=mA f) (by rw [←l];exact r f)
 exact get_map I.fM O (c.get f) c.hd n hu (uS ru) (h u _ (I.tok _) ru)
theorem tB{m:Str}{g:Addr}{pl:Sem Bool}{Q:Value×List Value→Shared→Prop}(I:Inv X pins σ H s)(e:H a=some (.ins C dx fs))(c:p6 X.K C)(k:Meth X.K C m g)(l:fs.lookup m=none)
  (h:Q (.ref g,[.ref a]) s):wpAny (model X.prog X.w) A (getMethod (.ref a) m pl) Q E s:=by
 obtain ⟨mA,O,r,_,_,_⟩:=kW I.hok e;have hn:mA m=none:=jY.none_of (by rw [←l];exact r m)
 exact xj I.fM O (c.get m) k.at_ k.fn hn h
theorem ub{y:V}{u:Value}{Q:Unit→Shared→Prop}(I:Inv X pins σ H s)(e:H a=some (.ins C dx fs))(c:p6 X.K C)(n:iJ X.K C f)(hl:fs.length<1000)(ry:RelV y u)
  (h:∀s',Inv X pins σ (upd H a (.ins C dx (fF f y fs))) s'→Q () s'):wpAny (model X.prog X.w) A (setAttr (.ref a) f u) Q E s:=by
 obtain ⟨mA,O,r,wi,_,ho⟩:=kW I.hok e;have hz:(fs.map (·.1)).length≤sizeLine:=by rw [aV,sizeLine_eq];omega
 refine Ai I.fM O c.sa c.po n.FG c.hd wi hz λh' O' sb=>h _ ?_;have hd:∃o,h'.get? dx=some o:=let ⟨o,_,_,e',_⟩:=O'.ns;⟨o,e'⟩;refine I.write (x:=a) (e:=dx) (by rw [e];exact True.intro) (.inr ho) (λb q hb z=>(sb.2 b hb).trans z) hd ?_
 refine ⟨by rw [ay O.ne];exact ho,?_,O.ne,O'.obj,_,O'.ns,λg=>?_,λg hg=>?_⟩
 ·have:=lb f y fs;omega
 ·show jY ((fF f y fs).lookup g) (if g=f then some u else mA g)
  rw [lg]
  by_cases q:g=f
  ·rw [if_pos q,if_pos q];exact ry
  ·rw [if_neg q,if_neg q];exact r g
 ·by_cases q:g=f
  ·rw [q];exact (kq f y fs).1
  ·refine (kq f y fs).2 g (wi g λz=>hg ?_)
   show (if g=f then some u else mA g)=none;rw [if_neg q];exact z
theorem Inv.made(I:Inv X pins σ H s):Inv X pins σ (upd (upd H s.heap.objs.size (.own (s.heap.objs.size+1))) (s.heap.objs.size+1) (.ins C s.heap.objs.size []))
  {s with heap:=(s.heap.push PySem.W.emptyDict).push (PySem.W.instObj C s.heap.objs.size)}:=by
 have e1:(s.heap.push PySem.W.emptyDict).get? s.heap.objs.size=some PySem.W.emptyDict:=Heap.get?_push_size s.heap rfl
 have e2:((s.heap.push PySem.W.emptyDict).push (PySem.W.instObj C s.heap.objs.size)).get? (s.heap.objs.size+1)=some (PySem.W.instObj C s.heap.objs.size):=by
  have:=Heap.get?_push_size (s.heap.push PySem.W.emptyDict) (o:=PySem.W.instObj C s.heap.objs.size) rfl
  rwa [Heap.size_push] at this
 have e3:(s.heap.push PySem.W.emptyDict).Ns s.heap.objs.size (λ_=>none):=⟨PySem.W.emptyDict, #[],_,e1,rfl,(λe he=>absurd he (by simp)),λ_=>rfl⟩
 have I1:=I.laid (a:=s.heap.objs.size) (o:= .own (s.heap.objs.size+1)) (h':=s.heap.push PySem.W.emptyDict) (t':=s.toks) (λb u q=>Heap.get?_push_of_some _ q) (bC _) ⟨_,e1⟩;refine I1.laid (a:=s.heap.objs.size+1) (o:= .ins C s.heap.objs.size []) (t':=s.toks) (λb u q=>Heap.get?_push_of_some _ q) (Nat.le_of_eq (Heap.size_push _ _)) ?_;have ne:s.heap.objs.size≠s.heap.objs.size+1:=cf (Nat.lt_succ_self _);refine ⟨by rw [ay ne,aw],gB _,ne,e2,λ_=>none,(Heap.Ns1.of_empty e3).at λo q=>Heap.get?_push_of_some _ q,λ_=>True.intro,λy hy=>absurd rfl hy⟩
theorem yg{prog:Program}{w:World}{env:Env}{e:Expr}{f:Str}{pos:Pos}{s:Shared}{Q:Value→Shared→Prop}(hb:attributeBase e f env (eval e env)=eval e env)
  (h:wpAny (model prog w) A (eval e env) (λo s₁=>wpAny (model prog w) A (getAttr o f true) Q E s₁) E s):wpAny (model prog w) A (eval (.Attribute e f pos) env) Q E s:=
 Attribute_any_ h (by rw [arm_eval_Attribute,hb])
end
def KP(K:PySem.W.Frag)(ta:TE)(f:Str):TE:=λσ H Q=>ta σ H λx H1=>∃a C dx fs v,x= .ref a∧H1 a=some (.ins C dx fs)∧p6 K C∧iJ K C f∧fs.lookup f=some v∧Q v H1
def Kl(K:PySem.W.Frag)(ta tv:TE)(f:Str):TS:=λD σ H=>tv σ H λy H1=>ta σ H1 λx H2=>∃a C dx fs,x= .ref a∧H2 a=some (.ins C dx fs)∧p6 K C∧iJ K C f∧fs.length<1000∧
 D.nx σ (upd H2 a (.ins C dx (fF f y fs)))
section
variable {X:Cx} {o e value:Expr} {f:Str} {pos pos' Q2:Pos} {ta tv:TE}
theorem BI(he:PE X e ta)(hb:attributeBase e f X.env (eval e X.env)=eval e X.env):PE X (.Attribute e f pos) (KP X.K ta f):=by
 intro pins s σ H Q I h;refine yg hb (thn (he pins s σ H _ I h) λu s1 ⟨x,H1,I1,rx,a,C,dx,fs,v,ex,ea,c,n,l,q⟩=>?_);subst ex;obtain rfl:u=Value.ref a:=rx;exact tx I1 ea c n l λu' s2 I2 ru=>⟨v,H1,I2,ru,q⟩
theorem BR(ha:PE X o ta)(hv:PE X value tv)(hs:swapsWith value (some (.Attribute o f pos')) pos.line X.env=pure false):PS X (.Assign [.Attribute o f pos'] value pos) (Kl X.K ta tv f):=by
 intro pins s σ H D I h;refine plainObj_wpAny_Assign_Attribute (thn (hv pins s σ H _ I h) λu s1 ⟨y,H1,I1,ry,q⟩=>thn (ha pins s1 σ H1 _ I1 q) λov s2 ⟨x,H2,I2,rx,a,C,dx,fs,ex,ea,c,n,l,q2⟩=>?_) hs;subst ex;obtain rfl:ov=Value.ref a:=rx;exact ub I2 ea c n l ry λs3 I3=>⟨σ,_,I3,q2⟩
end
section
variable {X:Cx} {pins:List (Addr×Obj)} {σ:St} {H:Hp} {s:Shared} {A:Around} {E:Value→Shared→Prop} {Q:Value→Shared→Prop} {c:Value} {b:Bool}
inductive gH (K:PySem.W.Frag) (H:Hp):V→Value→Prop where
 |aN:gH K H .aN (.type "NoneType")
 |bl (x:Bool):gH K H (.bl x) (.type "bool")
 |int (i:Int):gH K H (.int i) (.type "int")
 |str (x:Str):gH K H (.str x) (.type "str")
 |uN (x:UInt64):gH K H (.uN x) (.type "float")
 |lst {a:Addr} {xs:List V} (e:H a=some (.lst xs)):gH K H (.ref a) (.type "list")
 |kS {a:Addr} {o:Obj} {xs:List V} (e:H a=some (.kS o (.lst xs))):gH K H (.ref a) (.type "list")
 |tup {a:Addr} {xs:List V} (e:H a=some (.tup xs)):gH K H (.ref a) (.type "tuple")
 |dK {a:Addr} {ck:List (Key×V)} (e:H a=some (.dK ck)):gH K H (.ref a) (.type "dict")
 |dT {a:Addr} {ck:List (List Key×V)} (e:H a=some (.dT ck)):gH K H (.ref a) (.type "dict")
 |ins {a C dx:Addr} {fs:List (Str×V)} (e:H a=some (.ins C dx fs)) (cl:p6 K C) (ha:PySem.W.findIn K (.ref C) "__class__"=some (some (.builtin "object.__class__")))
   (hn:PySem.W.specialIn K (.builtin "object.__class__") "__get__"=some (some (.builtin "getset_descriptor.__get__"))) (Ir:PySem.W.takesIn K (.builtin "object.__class__")=some true)
   (hm:PySem.W.mroIn K C (.type "object")=some true):gH K H (.ref a) (.ref C)
theorem u9{x:V}{u t:Value}(I:Inv X pins σ H s)(rx:RelV x u)(ty:gH X.K H x t)(e:PySem.W.kitOne X.K t c=some b)(h:∀tk,Q (.bool b) {s with toks:=tk}):
  wpAny (model X.prog X.w) A (call (.builtin "isinstance") [u,c]) Q E s:=by
 cases ty with
 |aN=>cases (show u=Value.none from rx);exact PySem.W.kia_one PySem.W.kitx_none I.fM True.intro e (λz=>nomatch z) h
 |bl y=>cases (show u=Value.bool y from rx);exact PySem.W.kia_one PySem.W.kitx_bool I.fM True.intro e (λz=>nomatch z) h
 |int i=>obtain ⟨t,q⟩:=(show ∃t,u=Value.int i t from rx);cases q;exact PySem.W.kia_one PySem.W.kitx_int I.fM True.intro e (λz=>nomatch z) h
 |str y=>obtain ⟨t,q⟩:=(show ∃t,u=Value.str y t from rx);cases q;exact PySem.W.kia_one PySem.W.kitx_str I.fM True.intro e (λz=>nomatch z) h
 |uN y=>obtain ⟨t,q⟩:=(show ∃t,u=Value.float y t from rx);cases q;exact PySem.W.kia_one PySem.W.kitx_float I.fM True.intro e (λz=>nomatch z) h
 | @lst a xs ea=>
  cases (show u=Value.ref a from rx);obtain ⟨_,_,n,_,h1⟩:=(show bL X.prog X.w H s.heap a (.lst xs) from I.hok a _ ea);exact PySem.W.kia_one PySem.W.kitx_list I.fM ⟨_,h1,rfl⟩ e (λz=>nomatch z) h
 | @kS a ob xs ea=>
  cases (show u=Value.ref a from rx);obtain ⟨_,_,_,n,_,h1⟩:=(show bL X.prog X.w H s.heap a (.kS ob (.lst xs)) from I.hok a _ ea);exact PySem.W.kia_one PySem.W.kitx_list I.fM ⟨_,h1,rfl⟩ e (λz=>nomatch z) h
 | @tup a xs ea=>
  cases (show u=Value.ref a from rx);obtain ⟨_,_,_,p⟩:=(show bL X.prog X.w H s.heap a (.tup xs) from I.hok a _ ea);obtain ⟨o,h1,h2,_⟩:=p;exact PySem.W.kia_one PySem.W.kitx_tuple I.fM ⟨o,h1,h2⟩ e (λz=>nomatch z) h
 | @dK a ck ea=>
  cases (show u=Value.ref a from rx);obtain ⟨_,_,vs,_,p⟩:=(show bL X.prog X.w H s.heap a (.dK ck) from I.hok a _ ea);obtain ⟨o,es,ep,h1,h2,_⟩:=p;exact PySem.W.kia_one PySem.W.kitx_dict I.fM ⟨o,h1,h2.1⟩ e (λz=>nomatch z) h
 | @dT a ck ea=>
  cases (show u=Value.ref a from rx);obtain ⟨_,_,xs,_,o,es,ep,h1,h2,_⟩:=(show bL X.prog X.w H s.heap a (.dT ck) from I.hok a _ ea);exact PySem.W.kia_one PySem.W.kitx_dict I.fM ⟨o,h1,h2.1⟩ e (λz=>nomatch z) h
 | @ins a C dx fs ea cl ha hn Ir hm=>
  cases (show u=Value.ref a from rx);obtain ⟨mA,O,_⟩:=kW I.hok ea;obtain ⟨od,J,_⟩:=O.look;exact PySem.W.kia_one (PySem.W.kitx_own (cl.get _) cl.hd ha hn Ir hm) I.fM J e (λz=>nomatch z) h
end
structure bH (k:Nat) (A:Around):Prop where
 hd:A.handled=none
 dp:A.depth+3*k+5<recursionLimit
 un:A.units+16*k+200<cLine
theorem bH.mono{j k:Nat}{A:Around}(r:bH k A)(h:j≤k):bH j A:=⟨r.hd,by have:=r.dp;omega,by have:=r.un;omega⟩
theorem bH.deeper{k:Nat}{A:Around}(r:bH (k+1) A)(env:Env):bH k (A.deeper env):=
 ⟨r.hd,by have:=r.dp;show A.depth+1+3*k+5<_;omega,by have:=r.un;show A.units+3+16*k+200<_;omega⟩
theorem tN{A:Around}{C:Addr}{us:List Value}{kw:List (Str×Value)}:(A.under (.builtin "type.__call__" ⟨.ref C::us,kw⟩)).depth=A.depth+1:=by
 first|rfl|simp [Around.under,Code.weight,Code.isCreation,Code.isGuard,Code.isCaller,Code.frames,Code.isFrame,guardIds]
theorem tO{A:Around}{C:Addr}{us:List Value}{kw:List (Str×Value)}:(A.under (.builtin "type.__call__" ⟨.ref C::us,kw⟩)).units=A.units+1:=by
 first|rfl|simp [Around.under,Code.cUnits,Code.frames,Code.isFrame]
theorem bH.make{k:Nat}{A:Around}(r:bH (k+1) A)(C:Addr)(us:List Value)(kw:List (Str×Value)):bH k (A.under (.builtin "type.__call__" ⟨.ref C::us,kw⟩)):=
 ⟨r.hd,by have:=r.dp;rw [tN];omega,by have:=r.un;rw [tO];omega⟩
theorem bH.depth{k:Nat}{A:Around}(r:bH k A):A.depth<recursionLimit:=by have:=r.dp;omega
theorem bH.units{k:Nat}{A:Around}(r:bH k A):A.units+64<cLine:=by have:=r.un;omega
def Di:TA:=λ_ H Q=>Q [] H
def Fy(ta:TE)(tr:TA):TA:=λσ H Q=>ta σ H λx H1=>tr σ H1 λxs H2=>Q (x::xs) H2
section
variable {X:Cx} {e:Expr} {es:List Expr} {te:TE} {t:TA} {pos:Pos}
theorem eO:PA X [] Di:=λ_ _ _ _ H Q I h=>Calls.spliced_nil ⟨[],H,I, .nil,h⟩
theorem cK(ha:PE X e te)(hr:PA X es t)(hs:starEach (e::es) X.env=(false,eval e X.env)::starEach es X.env:=by rfl):PA X (e::es) (Fy te t):=by
 intro pos pins s σ H Q I h;rw [hs];show wpAny _ _ (spliced ((false,eval e X.env)::backTo pos (starEach es X.env))) _ _ s;refine Calls.spliced_cons (thn (ha pins s σ H _ I h) λu s1 ⟨x,H1,I1,r1,q1⟩=>?_);exact thn (hr pos pins s1 σ H1 _ I1 q1) λus s2 ⟨xs,H2,I2,r2,q2⟩=>⟨x::xs,H2,I2, .cons r1 r2,q2⟩
def KZ(t:TA):TE:=λσ H Q=>t σ H λxs H1=>xs.length≤sizeLine∧∀p,H1 p=none→Q (.ref p) (upd H1 p (.tup xs))
def KS(t:TA):TE:=λσ H Q=>t σ H λxs H1=>xs.length≤sizeLine∧∀p,H1 p=none→Q (.ref p) (upd H1 p (.lst xs))
theorem BO{x1}(h:PA X es t):PE X (.Tuple es x1 pos) (KZ t):=by
 intro pins s σ H Q I hq;refine wpAny_Tuple_spliced (thn (h pos pins s σ H _ I hq) λus s1 ⟨xs,H1,I1,r,z,q⟩=>⟨by rw [←r.length];exact z,?_⟩)
 have hf:H1 s1.heap.objs.size=none:=I1.hok.fresh (bC _);refine ⟨.ref s1.heap.objs.size,upd H1 s1.heap.objs.size (.tup xs),I1.laid (t':=s1.toks) (λb u e=>Heap.get?_push_of_some _ e) (bC _) ?_,rfl,q _ hf⟩;exact ⟨z,us,r,⟨_,Heap.get?_push_size _ rfl,rfl,_,rfl⟩⟩
theorem rZ(h:PA X es t):PE X (.List es pos) (KS t):=by
 intro pins s σ H Q I hq;refine wpAny_List_spliced (thn (h pos pins s σ H _ I hq) λus s1 ⟨xs,H1,I1,r,z,q⟩=>⟨by rw [←r.length];exact z,?_⟩)
 have hf:H1 s1.heap.objs.size=none:=I1.hok.fresh (bC _);refine ⟨.ref s1.heap.objs.size,upd H1 s1.heap.objs.size (.lst xs),I1.laid (t':=s1.toks) (λb u e=>Heap.get?_push_of_some _ e) (bC _) ?_,rfl,q _ hf⟩;exact ⟨z,us,0,r,Heap.get?_push_size _ rfl⟩
end
abbrev Sp:=List V→Hp→VK→XK→Prop
abbrev lQ:=List Env→Hp→Shared→XK→Value→Shared→Prop
structure Env0 (P:Program) (w:World) (K:PySem.W.Frag) (mg:Str→Option Value) (base:Heap) (A:Around) (outer:List Env) (s:Shared) (H:Hp):Prop where
 frames:A.frames=some outer
 mod:Mod K mg base
 bs:∀b o,base.get? b=some o→s.heap.get? b=some o∧H b=none
 bsz:base.objs.size≤s.heap.objs.size
 funs:s.heap.FunFrames base outer
 frf:∀b∈oJ outer,H b=none
 hok:fI P w H s.heap
 bare:AllBare s.gens
def CE(outer:List Env)(P:Program)(w:World)(H:Hp)(s:Shared)(Q:VK)(u:Value)(s':Shared):Prop:=
 ∃v H',s'.os=s.os∧AllBare s'.gens∧Un (oJ outer) [] H H' s.heap s'.heap∧fI P w H' s'.heap∧RelV v u∧Q v H'
def CR(CX:lQ)(outer:List Env)(P:Program)(w:World)(H:Hp)(s:Shared)(Q:VK)(E:XK)(r:Result)(s':Shared):Prop:=
 match r with
 | .ok (.ret u)=>CE outer P w H s Q u s'
 | .ok _=>False
 | .error e=>CX outer H s E e s'
structure FnOk (P:Program) (w:World) (K:PySem.W.Frag) (mg:Str→Option Value) (base:Heap) (CX:lQ) (k:Nat) (f:Addr) (fd:FuncData) (ps:List Str) (sp:Sp):Prop where
 len:∀vs H Q E,sp vs H Q E→vs.length=ps.length
 run:∀(A:Around)(outer:List Env)(s:Shared)(H:Hp)(args:Args)(us:List Value)(vs:List V)(Q:VK)(E:XK),bH k A→Env0 P w K mg base A outer s H→BindsTo s fd args (ps.zip us)→Vals vs us→sp vs H Q E→
  codeAny (model P w) A (.call (.ref f) args) (CR CX outer P w H s Q E) s
theorem FnOk.mono{P:Program}{w:World}{K:PySem.W.Frag}{mg:Str→Option Value}{base:Heap}{CX:lQ}{j k:Nat}{f:Addr}{fd:FuncData}{ps:List Str}{sp:Sp}(F:FnOk P w K mg base CX j f fd ps sp)(h:j≤k):
  FnOk P w K mg base CX k f fd ps sp:=⟨F.len,λA outer s H args us vs Q E hr=>F.run A outer s H args us vs Q E (hr.mono h)⟩
theorem FnOk.imp{P:Program}{w:World}{K:PySem.W.Frag}{mg:Str→Option Value}{base:Heap}{CX:lQ}{k:Nat}{f:Addr}{fd:FuncData}{ps:List Str}{sp KC:Sp}(F:FnOk P w K mg base CX k f fd ps sp)
  (h:∀vs H Q E,KC vs H Q E→sp vs H Q E):FnOk P w K mg base CX k f fd ps KC:=
 ⟨λvs H Q E q=>F.len vs H Q E (h _ _ _ _ q),λA outer s H args us vs Q E hr he hb hv hs=>F.run A outer s H args us vs Q E hr he hb hv (h _ _ _ _ hs)⟩
theorem Env0.make{P:Program}{w:World}{K:PySem.W.Frag}{mg:Str→Option Value}{base:Heap}{A:Around}{outer:List Env}{s:Shared}{H:Hp}(e:Env0 P w K mg base A outer s H)(C:Addr)(us:List Value)(kw:List (Str×Value)):
  Env0 P w K mg base (A.under (.builtin "type.__call__" ⟨.ref C::us,kw⟩)) outer s H:=⟨by first|exact e.frames| (simpa [Around.under,Code.envs,Code.isFrame,pushEnvs] using e.frames),e.mod,e.bs,e.bsz,e.funs,e.frf,e.hok,e.bare⟩
section
variable {X:Cx} {pins:List (Addr×Obj)} {σ:St} {H:Hp} {s s':Shared}
theorem Inv.CU(I:Inv X pins σ H s):Env0 X.prog X.w X.K X.mg X.base X.A X.stack s H:=
 ⟨I.ok.frames,I.ok.mod,I.bs,jG I.ok.bsz I.sz,I.stack,I.ug,I.hok,I.bare⟩
theorem Inv.after{Q:VK}{u:Value}(I:Inv X pins σ H s)(h:CE X.stack X.prog X.w H s Q u s'):EP X pins σ Q u s':=by
 obtain ⟨v,H',os,bare,un,hok,r,q⟩:=h;obtain ⟨hh,g,d,t,Fh⟩:=s';obtain rfl:Fh=s.os:=os;exact ⟨v,H',I.call (h':=hh) (g':=g) (d':=d) (t':=t) (ch:= []) un hok bare (λb z=>absurd z (by simp)),r,q⟩
end
def Fx(sp:Sp)(aT:List V)(E:XK)(t:TA):TE:=λσ H Q=>t σ H λvs H1=>sp (vs++aT) H1 Q E
def Ax(C:Addr)(m:Str)(sp:Sp)(aT:List V)(E:XK)(ta:TE)(t:TA):TE:=λσ H Q=>ta σ H λx H1=>∃a dx fs,x= .ref a∧H1 a=some (.ins C dx fs)∧fs.lookup m=none∧
 t σ H1 λvs H2=>sp (x::(vs++aT)) H2 Q E
def FA(C:Addr)(sp:Sp)(aT:List V)(E:XK)(t:TA):TE:=λσ H Q=>t σ H λvs H1=>∀x dx,H1 x=none→H1 dx=none→dx≠x→
 sp (.ref x::(vs++aT)) (upd (upd H1 dx (.own x)) x (.ins C dx [])) (λv H2=>v= .aN∧Q (.ref x) H2) E
def Binds(K:PySem.W.Frag)(fd:FuncData)(ps:List Str)(ds:List Value):Prop:=
 ∀(s:Shared)(us:List Value),K.In s.heap→(us++ds).length=ps.length→BindsTo s fd ⟨us,[]⟩ (ps.zip (us++ds))
theorem Binds.all{K:PySem.W.Frag}{fd:FuncData}{ps:List Str}(h:∀us:List Value,us.length=ps.length→bindArgs fd ⟨us,[]⟩=pure (ps.zip us)):Binds K fd ps []:=λs us _ hl=>by
 rw [pZ] at hl ⊢;exact .of_eq (h us hl)
def Passes(CX:lQ)(X:Cx)(E:XK):Prop:=∀(pins:List (Addr×Obj))(σ:St)(H:Hp)(s:Shared)(e:Value)(s':Shared),Inv X pins σ H s→CX X.stack H s E e s'→X.xe e s'
section
variable {X:Cx} {CX:lQ} {k:Nat} {f C:Addr} {fd:FuncData} {ps:List Str} {sp:Sp} {aT:List V} {ds:List Value} {E:XK} {x m:Str} {p pos apos:Pos} {e o:Expr} {es:List Expr} {ta:TE} {t:TA}
theorem wA{pins:List (Addr×Obj)}{σ:St}{H:Hp}{s:Shared}{Q:VK}{us:List Value}{vs:List V}(F:FnOk X.prog X.w X.K X.mg X.base CX k f fd ps sp)(hr:bH k X.A)(hb:Binds X.K fd ps ds)(hd:Vals aT ds)(hx:Passes CX X E)
  (I:Inv X pins σ H s) (r:Vals vs us) (h:sp (vs++aT) H Q E):wpAny (model X.prog X.w) X.A (call (.ref f) us) (EP X pins σ Q) X.xe s:=by
 have r2:Vals (vs++aT) (us++ds):=r.append hd;have hl:(us++ds).length=ps.length:=by rw [←r2.length];exact F.len _ _ _ _ h
 refine wpAny_call (codeAny_mono (F.run X.A X.stack s H ⟨us,[]⟩ (us++ds) (vs++aT) Q E hr I.CU (hb s us I.fM hl) r2 h) λr s' hq=>?_);cases r with
 |error e=>exact hx pins σ H s e s' I hq
 |ok fl=>
  cases fl with
  |ret u=>exact I.after hq
  |next=>exact False.elim hq
  |brk=>exact False.elim hq
  |cont=>exact False.elim hq
theorem tW(F:FnOk X.prog X.w X.K X.mg X.base CX k f fd ps sp)(hr:bH k X.A)(hg:Gl X x)(hm:X.mg x=some (.ref f))(hk:PySem.W.keepIn X.K (.ref f)=true)(hb:Binds X.K fd ps ds)(hd:Vals aT ds)(hx:Passes CX X E)
  (ha:PA X (e::es) t) (gd:(x==("__debug__":Str))=false:=by decide) (he:starEach (e::es) X.env=(false,eval e X.env)::starEach es X.env:=by rfl) (dJ:(backTo pos (starEach es X.env)).any (·.1)=false:=by rfl):
  PE X (.Call (.Name x p) (e::es) [] pos) (Fx sp aT E t):=by
 intro pins s σ H Q I h;refine wpAny_Call_Name_kw (oV I hg hm ?_ gd);refine PySem.W.callWith_K (h₀:=X.base) I.ok.mod.kin hk (thn (ha pos pins s σ H _ I h) λus s1 ⟨vs,H1,I1,r,q⟩=>⟨I1.fM,?_⟩) he dJ;exact wA F hr hb hd hx I1 r q
theorem xF{pl:Sem Bool}(he:PE X o ta)(c:p6 X.K C)(hm:Meth X.K C m f)(F:FnOk X.prog X.w X.K X.mg X.base CX k f fd ps sp)(hr:bH k X.A)(hb:Binds X.K fd ps ds)(hd:Vals aT ds)(hx:Passes CX X E)
  (ht:eval (.Call (.Attribute o m apos) [] [] pos) X.env=(do
   let ov ←eval o X.env
   standAt apos.atName
   let (f,first) ←holding [ov] (getMethod ov m pl)
   callWith pos f first (backTo pos (starEach [] X.env)) (backToKw pos (keywordEach [] X.env))):=by rfl):
  PE X (.Call (.Attribute o m apos) [] [] pos) (Ax C m sp aT E ta Di):=by
 intro pins s σ H Q I h;refine PySem.W.methodCall_KW (pl:=pl) (thn (he pins s σ H _ I h) λu s1 ⟨x,H1,I1,rx,a,dx,fs,ex,ea,l,q⟩=>?_) ht;subst ex;obtain rfl:u=Value.ref a:=rx;refine tB I1 ea c hm l ?_;exact PySem.W.callWith_K0 (first:= [.ref a]) I1.fM hm.kp (wA (us:= [.ref a]) (vs:= [.ref a]) F hr hb hd hx I1 (.cons rfl .nil) q)
structure Mk (K:PySem.W.Frag) (C f:Addr):Prop where
 makes:PySem.W.makesIn K C=true
 init:PySem.W.findIn K (.ref C) "__init__"=some (some (.ref f))
 fn:PySem.W.isFn K (.ref f)=true
 kp:PySem.W.keepIn K (.ref C)=true
theorem xQ{pins:List (Addr×Obj)}{σ:St}{H:Hp}{s:Shared}{Q:VK}{us:List Value}{vs:List V}(M:Mk X.K C f)(F:FnOk X.prog X.w X.K X.mg X.base CX k f fd ps sp)(hr:bH (k+1) X.A)(hb:Binds X.K fd ps ds)(hd:Vals aT ds)
  (hx:Passes CX X E) (I:Inv X pins σ H s) (r:Vals vs us)
  (h:∀x dx,H x=none→H dx=none→dx≠x→sp (.ref x::(vs++aT)) (upd (upd H dx (.own x)) x (.ins C dx [])) (λv H2=>v= .aN∧Q (.ref x) H2) E):
  wpAny (model X.prog X.w) X.A (call (.ref C) us) (EP X pins σ Q) X.xe s:=by
 have hq:=h (s.heap.objs.size+1) s.heap.objs.size (I.hok.fresh (Nat.le_succ _)) (I.hok.fresh (bC _)) (cf (Nat.lt_succ_self _));have I2:=Inv.made (C:=C) I;have r2:Vals (V.ref (s.heap.objs.size+1)::(vs++aT)) (Value.ref (s.heap.objs.size+1)::(us++ds)):= .cons rfl (r.append hd)
 have hl:(Value.ref (s.heap.objs.size+1)::us++ds).length=ps.length:=by
  have e:=r2.length;rw [F.len _ _ _ _ hq] at e;exact e.symm
 refine wpAny_call (xB (f:=f) I.fM M.makes M.init (beq_iff_eq.mp M.fn) (codeAny_mono (F.run _ X.stack _ _ ⟨Value.ref (s.heap.objs.size+1)::us,[]⟩ (Value.ref (s.heap.objs.size+1)::(us++ds)) _ _ E (hr.make C us [])
  (I2.CU.make C us []) (hb _ (Value.ref (s.heap.objs.size+1)::us) I2.fM hl) r2 hq) λr s' zi=>?_))
 cases r with
 |error e=>exact hx pins σ _ _ e s' I2 zi
 |ok fl=>
  cases fl with
  |ret u=>
   obtain ⟨v,H',I3,rv,ev,q3⟩:=I2.after zi;subst ev;exact ⟨rv,⟨V.ref (s.heap.objs.size+1),H',I3,rfl,q3⟩⟩
  |next=>exact False.elim zi
  |brk=>exact False.elim zi
  |cont=>exact False.elim zi
theorem zV(M:Mk X.K C f)(F:FnOk X.prog X.w X.K X.mg X.base CX k f fd ps sp)(hr:bH (k+1) X.A)(hg:Gl X x)(hm:X.mg x=some (.ref C))(hb:Binds X.K fd ps ds)(hd:Vals aT ds)(hx:Passes CX X E)
  (ha:PA X (e::es) t) (gd:(x==("__debug__":Str))=false:=by decide) (he:starEach (e::es) X.env=(false,eval e X.env)::starEach es X.env:=by rfl) (dJ:(backTo pos (starEach es X.env)).any (·.1)=false:=by rfl):
  PE X (.Call (.Name x p) (e::es) [] pos) (FA C sp aT E t):=by
 intro pins s σ H Q I h;refine wpAny_Call_Name_kw (oV I hg hm ?_ gd);refine PySem.W.callWith_K (h₀:=X.base) I.ok.mod.kin M.kp (thn (ha pos pins s σ H _ I h) λus s1 ⟨vs,H1,I1,r,q⟩=>⟨I1.fM,?_⟩) he dJ;exact xQ M F hr hb hd hx I1 r q
end
section
variable {X:Cx} {CX:lQ} {k:Nat} {f C:Addr} {fd:FuncData} {ps ks:List Str} {sp:Sp} {E:XK} {x m:Str} {p pos apos QZ:Pos} {e o:Expr} {es:List Expr} {Ro:List Keyword} {te ta:TE} {t tk:TA} {nm:Option Str}
variable {g:List Value→List Value→List Value} {gV:List V→List V→List V}
end
structure aI (N P:List Str) (sc:Scope):Prop where
 kind:sc.kind= .function
 co:sc.isCoroutine=false
 gen:sc.isGenerator=false
 nd:N.Nodup
 pre:N.take P.length=P
 par:∀x∈P,sc.names.lookup x=some .local∨sc.names.lookup x=some .cell
 nofree:∀y∈sc.names,y.2≠ .free
theorem oh{kindOf:Str→Option NameKind}{x:Str}:∀{binds:List (Str×Value)}{m:Str→Option Value},(∀v,(x,v)∉binds)→bindL kindOf binds m x=m x
 | [],_,_=>rfl
 | (n,v)::r,m,h=>by
  unfold bindL;rw [oh λw hw=>h w (fg _ hw)]
  split
  ·have:x≠n:=by rintro rfl;exact h v eH
   simp [this]
  ·rfl
theorem oe{kindOf:Str→Option NameKind}{x:Str}:∀{binds:List (Str×Value)}{m:Str→Option Value},(∀v,(x,v)∉binds)→bindC kindOf binds m x=m x
 | [],_,_=>rfl
 | (n,v)::r,m,h=>by
  unfold bindC;rw [oe λw hw=>h w (fg _ hw)]
  split
  ·rfl
  ·have:x≠n:=by rintro rfl;exact h v eH
   simp [this]
theorem og{kindOf:Str→Option NameKind}{x:Str}{v:Value}:∀{P:List Str}{vs:List Value}{i:Nat}{m:Str→Option Value},P.Nodup→P[i]? =some x→vs[i]? =some v→kindOf x=some .local→
  bindL kindOf (P.zip vs) m x=some v
 | [],_,_,_,_,h,_,_=>by simp at h
 |_::_,[],_,_,_,_,h,_=>by simp at h
 |p::P,w::vs,0,m,nd,h1,h2,hk=>by
  simp at h1 h2;subst h1;subst h2;show bindL kindOf ((p,w)::P.zip vs) m p=_;unfold bindL;rw [oh λv hv=>(jF.mp nd).1 (List.of_mem_zip hv).1,if_pos hk];simp
 |p::P,w::vs,i+1,m,nd,h1,h2,hk=>by
  show bindL kindOf ((p,w)::P.zip vs) m x=_;unfold bindL;exact og (i:=i) (jF.mp nd).2 (by simpa using h1) (by simpa using h2) hk
theorem n9{kindOf:Str→Option NameKind}{x:Str}{v:Value}:∀{P:List Str}{vs:List Value}{i:Nat}{m:Str→Option Value},P.Nodup→P[i]? =some x→vs[i]? =some v→kindOf x≠some .local→
  bindC kindOf (P.zip vs) m x=some v
 | [],_,_,_,_,h,_,_=>by simp at h
 |_::_,[],_,_,_,_,h,_=>by simp at h
 |p::P,w::vs,0,m,nd,h1,h2,hk=>by
  simp at h1 h2;subst h1;subst h2;show bindC kindOf ((p,w)::P.zip vs) m p=_;unfold bindC;rw [oe λv hv=>(jF.mp nd).1 (List.of_mem_zip hv).1,if_neg hk];simp
 |p::P,w::vs,i+1,m,nd,h1,h2,hk=>by
  show bindC kindOf ((p,w)::P.zip vs) m x=_;unfold bindC;exact n9 (i:=i) (jF.mp nd).2 (by simpa using h1) (by simpa using h2) hk
def start(N:List Str)(vs:List V):St:=vs.map some++List.replicate (N.length-vs.length) none
def mN(CX:lQ)(P:Program)(w:World)(K:PySem.W.Frag)(mg:Str→Option Value)(base:Heap)(N:List Str)(qual:Str)(scope:Scope)(f:Addr)(cd:Value)(A:Around)(outer:List Env)(s:Shared)(H:Hp)(E:XK):Cx where
 prog:=P
 w:=w
 K:=K
 mg:=mg
 base:=base
 A:=A.deeper (envOfC qual scope s.heap.objs.size f cd)
 N:=N
 s₀:=s
 H₀:=H
 env:=envOfC qual scope s.heap.objs.size f cd
 outer:=outer
 stack:=envOfC qual scope s.heap.objs.size f cd::outer
 ex:= []
 calm:=true
 fn:=λ_=>true
 pn:= []
 xe:=λe s'=>wpAny (model P w) (A.deeper (envOfC qual scope s.heap.objs.size f cd)) (leaving (envOfC qual scope s.heap.objs.size f cd) e) (λ_ Ft=>CX outer H s E e Ft) (λe' Ft=>CX outer H s E e' Ft) s'
theorem ql{sc:Scope}{n:Nat}{x:Str}(h:sc.names.lookup x=some .cell):∃c,(cellsFrom n sc.names []).lookup x=some c:=by
 have q:=PySem.W.cellsFrom_some sc.names n [] (.inl h);exact Option.isSome_iff_exists.mp q
theorem u6{CX:lQ}{P:Program}{w:World}{K:PySem.W.Frag}{mg:Str→Option Value}{base:Heap}{N ps:List Str}{qual:Str}{scope:Scope}{f:Addr}{cd:Value}{A:Around}{outer:List Env}{s s1:Shared}{H:Hp}{E:XK}{us:List Value}{vs:List V}
  (S:aI N ps scope) (hd:A.handled=none) (e0:Env0 P w K mg base A outer s H) (hl:vs.length=ps.length) (r:Vals vs us)
  (x:InCallC s s.heap.objs.size (bindL (envOfC qual scope s.heap.objs.size f cd).kindOf (ps.zip us) λ_=>none) (cellsFrom (s.heap.objs.size+1) scope.names []) (bindC (envOfC qual scope s.heap.objs.size f cd).kindOf (ps.zip us) λ_=>none) s1):
  Inv (mN CX P w K mg base N qual scope f cd A outer s H E) [] (start N vs) H s1:=by
 have dJ:ps.length≤N.length:=by have:=congrArg List.length S.pre;rw [jE] at this;omega
 obtain ⟨h1,tk,rfl,hk⟩:=x.done;have zG:∀b:Addr,b∉(mN CX P w K mg base N qual scope f cd A outer s H E).ex:=λb z=>absurd (show b∈([]:List Addr) from z) (by simp)
 refine ⟨⟨e0.mod,S.kind,rfl,rfl,bC _,λy z c h1 h2=>?_,λy hy=>?_,λy c _ h=>?_,λ_=>hd,Around.frames_deeper e0.frames, .inr ⟨rfl,rfl⟩,λb z=>absurd z (zG b),e0.bs,e0.bsz,λb _ _=>zG b,λb z=>absurd z (zG b),e0.funs,e0.frf⟩,
  rfl,e0.bare,Un.kept hk,⟨_,x.toInCall.ns,λi y v h1 h2 h3=>?_⟩,λy c h=>⟨_,x.cell y c h⟩,e0.hok.fresh (bC _),λy c h=>?_,λp hp=>absurd (show p∈([]:List (Addr×Obj)) from hp) (by simp),e0.hok.kept hk,?_⟩
 ·exact name_of_addr x.apart (PySem.mem_of_lookup h1) (PySem.mem_of_lookup h2)
 ·have hy:scope.names.lookup y=some .cell∨scope.names.lookup y=some .free:=hy
  rcases hy with hy|hy
  ·exact ql hy
  ·exact absurd rfl (S.nofree _ (PySem.mem_of_lookup hy))
 ·exact qW (x.above y c (PySem.mem_of_lookup h))
 ·have hi:i<vs.length:=by
   unfold start at h2
   by_cases hi:i<vs.length
   ·exact hi
   ·rw [i8 (by simpa using hi)] at h2
    rw [qR] at h2
    split at h2<;>cases h2
  have ha:vs[i]? =some v:=by
   unfold start at h2;rw [gS (by simpa using hi),cT] at h2
   cases e:vs[i]? with
   |none=>rw [e] at h2;cases h2
   |some a=>rw [e] at h2;cases h2;rfl
  obtain ⟨u,hu,rv⟩:=r.get ha
  have hp:ps[i]? =some y:=by
   rw [←S.pre,wL (by omega)];exact h1
  have Jg:ps.Nodup:=by rw [←S.pre];exact S.nd.sublist (List.take_sublist _ _)
  refine ⟨u,rv,?_⟩
  rcases S.par y (ee hp) with k|k
  ·exact .inl ⟨k,og Jg hp hu k⟩
  ·obtain ⟨c,e⟩:=ql (n:=s.heap.objs.size+1) k
   refine .inr ⟨.inl k,c,e,?_⟩;have q:=x.cell y c e;rw [n9 Jg hp hu (by show scope.names.lookup y≠_;rw [k];decide)] at q
   exact q
 ·exact e0.hok.fresh (qW (x.above y c (PySem.mem_of_lookup h)))
 ·unfold start
  show _=N.length;rw [cu,aV,pT];omega
theorem Ew{CX:lQ}{P:Program}{w:World}{K:PySem.W.Frag}{mg:Str→Option Value}{base:Heap}{k:Nat}{f:Addr}{name qual:Str}{params:Arguments}{body:List Stmt}{scope:Scope}{dV kV doc pm bc ct oc:Value}{an od:Option Addr}
  {tU:Array (Option Value)} {N ps:List Str} {sp:Sp} (lk:K.lookup f=some ⟨oc,od, .func (PySem.W.fnOf name qual params body scope dV kV doc pm an bc ct),tU⟩) (cA:PySem.W.codeIn K bc qual=true) (S:aI N ps scope)
  (len:∀vs H Q E,sp vs H Q E→vs.length=ps.length)
  (kn:∀(A:Around)(outer:List Env)(s:Shared)(H:Hp)(vs:List V)(Q:VK)(E:XK),bH k (A.deeper (envOfC qual scope s.heap.objs.size f bc))→sp vs H Q E→
   ∃t,jg (mN CX P w K mg base N qual scope f bc A outer s H E) body t∧t {nx:=λ_ H'=>Q .aN H',rt:=Q} (start N vs) H):
  FnOk P w K mg base CX (k+1) f (PySem.W.fnOf name qual params body scope dV kV doc pm an bc ct) ps sp:=by
 refine ⟨len,λA outer s H args us vs Q E hr e0 hb r tG=>?_⟩;have hl:=len _ _ _ _ tG;have KX:K.In s.heap:=e0.mod.kin.keeps λb o e=>(e0.bs b o e).1;have lim:s.heap.NoLimit:=e0.mod.nolimit.keeps λb o e=>(e0.bs b o e).1
 have EO:∀y∈ps.zip us,scope.names.lookup y.1=some .local∨(scope.names.lookup y.1=some .cell∧((cellsFrom (s.heap.objs.size+1) scope.names []).lookup y.1).isSome=true):=λ⟨n,v⟩ hy=>by
  rcases S.par n (List.of_mem_zip hy).1 with q|q
  ·exact .inl q
  ·exact .inr ⟨q,PySem.W.cellsFrom_some _ _ _ (.inl q)⟩
 refine codeAny_call_function hr.depth (KX _ _ lk) rfl S.co S.gen rfl (PySem.W.codeRec_of KX cA) (hb _ _ _ _ ?_);refine wpAny_newFunctionEnv_cells S.kind EO λenv he s1 x=>?_;subst he;refine ⟨lim.keeps x.toInCall.keep,codeAny_func ?_⟩;obtain ⟨t,ht,hq⟩:=kn A outer s H vs Q E (hr.deeper _) tG;have I:Inv (mN CX P w K mg base N qual scope f bc A outer s H E) [] (start N vs) H s1:=u6 S hr.hd e0 hl r x;refine wpAny_mono (ht [] s1 (start N vs) H _ I hq) (λfl s' hs=>?_) λe s' hs=>hs
 have fin:∀{aD:St}{H':Hp}{v:V}{u:Value},Inv (mN CX P w K mg base N qual scope f bc A outer s H E) [] aD H' s'→RelV v u→Q v H'→CE outer P w H s Q u s':=
  λ {aD H' v u} J rv q=>⟨v,H',J.os,J.bare,J.base,J.hok,rv,q⟩
 cases fl with
 |ret u=>
  obtain ⟨v,aD,H',J,rv,q⟩:=hs;exact fin J rv q
 |next=>
  obtain ⟨aD,H',J,q⟩:=hs;exact fin (v:=V.aN) (u:=Value.none) J rfl q
 |brk=>
  obtain ⟨_,_,_,q⟩:=hs;exact False.elim q
 |cont=>
  obtain ⟨_,_,_,q⟩:=hs;exact False.elim q
section
variable {X:Cx} {x:Str} {p pos:Pos} {e:Expr} {es:List Expr} {t:TA} {id T:String} {r:List V→Hp→VK→Prop}
def KO(r:List V→Hp→VK→Prop)(t:TA):TE:=λσ H Q=>t σ H λvs H1=>r vs H1 Q
theorem jR(hc:cU X (.builtin id) r)(hg:Gl X x)(hm:X.mg x=none)(hv:bootBuiltins x=some (.builtin id))(ha:PA X (e::es) t)(hn:x≠"__name__":=by decide)(gd:(x==("__debug__":Str))=false:=by decide)
  (he:starEach (e::es) X.env=(false,eval e X.env)::starEach es X.env:=by rfl) (dJ:(backTo pos (starEach es X.env)).any (·.1)=false:=by rfl):PE X (.Call (.Name x p) (e::es) [] pos) (KO r t):=by
 intro pins s σ H Q I h;refine wpAny_Call_Name_kw (iN I hg hm hv ?_ hn gd);exact PyProof.Rows.callWith_builtin1 (thn (ha pos pins s σ H _ I h) λus s1 ⟨vs,H1,I1,r1,q1⟩=>hc pins s1 σ H1 vs us Q I1 r1 q1) he dJ
theorem pH(hc:cU X (.type T) r)(hg:Gl X x)(hm:X.mg x=none)(hv:bootBuiltins x=some (.type T))(ha:PA X (e::es) t)(hn:x≠"__name__":=by decide)(gd:(x==("__debug__":Str))=false:=by decide)
  (he:starEach (e::es) X.env=(false,eval e X.env)::starEach es X.env:=by rfl) (dJ:(backTo pos (starEach es X.env)).any (·.1)=false:=by rfl):PE X (.Call (.Name x p) (e::es) [] pos) (KO r t):=by
 intro pins s σ H Q I h;refine wpAny_Call_Name_kw (iN I hg hm hv ?_ hn gd);exact PyProof.Rows.callWith_type1 (thn (ha pos pins s σ H _ I h) λus s1 ⟨vs,H1,I1,r1,q1⟩=>hc pins s1 σ H1 vs us Q I1 r1 q1) he dJ
end
end L2
namespace HT
open PySem PyProof.Rows
section
open PySem.SeqAt
open PySem.AutoSeq1 (wpAny_loadPart')
open PySem.MeetsSeq PySem.MeetsSeq2 PySem.MeetsSeq3
end
section
variable {prog:Program} {w:World} {A:Around} {E:Value→Shared→Prop} {s:Shared}
theorem yn{t b:Addr}{vs ws:List Value}{Q:Value→Shared→Prop}(ht:IsTup s.heap t vs.toArray)(hb:IsTup s.heap b ws.toArray)(hv:vs≠ [])
  (h1:ws= []→Q (.ref t) s) (h2:ws≠ []→Q (.ref s.heap.objs.size) {s with heap:=s.heap.push {cls:= .type "tuple",data:= .seq (vs++ws).toArray}})
  (tH:vs.length+ws.length≤sizeLine):wpAny (model prog w) A (binaryOp .Add (.ref t) (.ref b)) Q E s:=by
 obtain ⟨⟨cls,dd,data,sl⟩,ho,hc,n,hd⟩:=id ht;obtain ⟨⟨QU,Hk,data2,B2⟩,tE,HN,n2,hd2⟩:=id hb;simp only at hc hd HN hd2;subst hc hd HN hd2;have e:vs.toArray++ws.toArray=(vs++ws).toArray:=by simp
 by_cases hw:ws= []
 ·exact concat_meets ⟨_,ho,rfl⟩ ⟨_,tE,rfl⟩ noFill_tuple_add seq_tuple_add PySem.F.slot_tuple_add PySem.F.entry_tuple_add (PySem.F.args_tuple_add_2 _ _)
   (tuple_addW1 t b vs.toArray ws.toArray n n2 dd Hk sl B2 (by simpa using hv) (by simp [hw])) ⟨ho,tE,h1 hw⟩
 ·refine concat_meets ⟨_,ho,rfl⟩ ⟨_,tE,rfl⟩ noFill_tuple_add seq_tuple_add PySem.F.slot_tuple_add PySem.F.entry_tuple_add (PySem.F.args_tuple_add_2 _ _)
   (tuple_addW2 t b vs.toArray ws.toArray n n2 dd Hk sl B2 (by simpa using hv) (by simpa using hw) (by rw [dM,dM];exact tH)) ⟨ho,tE,?_⟩
  rw [e];exact h2 hw
def bo(n d:Nat):Option Int→Nat
 |none=>d
 |some v=>if v<0 then (v+(n:Int)).toNat else min v.toNat n
theorem B0(n d:Nat)(hd:d≤n)(o:Option Int):bo n d o≤n:=by
 cases o with
 |none=>exact hd
 |some v=>
  show (if v<0 then (v+(n:Int)).toNat else min v.toNat n)≤n
  by_cases hv:v<0
  ·rw [if_pos hv];omega
  ·rw [if_neg hv];exact Nat.min_le_right _ _
theorem sO(v:Int)(n d:Nat):(if v<0 then max (v+(n:Int)) 0 else min v (n:Int))=((bo n d (some v):Nat):Int):=by
 show (if v<0 then max (v+(n:Int)) 0 else min v (n:Int))=(((if v<0 then (v+(n:Int)).toNat else min v.toNat n):Nat):Int)
 by_cases hv:v<0
 ·simp only [if_pos hv];omega
 ·simp only [if_neg hv];omega
theorem sC(lo hi:Option Int)(n:Nat):Builtin.Slice.sliceAdjust lo hi 1 (n:Int)=(((bo n 0 lo:Nat):Int),((bo n n hi:Nat):Int)):=by
 have h1:¬((1:Int)<0):=by omega
 unfold Builtin.Slice.sliceAdjust;simp only [h1,if_false];refine Prod.ext ?_ ?_
 ·cases lo with
  |none=>rfl
  |some v=>exact sO v n 0
 ·cases hi with
  |none=>rfl
  |some v=>exact sO v n n
theorem t5(i j:Nat):Builtin.Slice.slicePlaces (i:Int) (j:Int) 1=j-i:=by
 unfold Builtin.Slice.slicePlaces;have h1:(1:Int)>0:=by omega
 simp only [h1,if_true,Int.ediv_one]
 split<;>omega
theorem m7{v:Value}{o:Option Int}{Q:Option Int→Shared→Prop}(p:IsPart v o)(h:Q o s):wpAny (model prog w) A (Builtin.Slice.slicePartIndex v) Q E s:=by
 cases p with
 |none=>exact slicePart_none h
 |int i t=>exact slicePart_int h
theorem lF{sl:Addr}{vl vu:Value}{lo hi:Option Int}{n:Nat}{Q:Int×Int×Nat→Shared→Prop}(hs:s.heap.IsSliceOf sl vl vu .none)(pl:IsPart vl lo)(pu:IsPart vu hi)
  (h:Q (((bo n 0 lo:Nat):Int),1,bo n n hi-bo n 0 lo) s):wpAny (model prog w) A (Builtin.Slice.sliceApplied (.ref sl) (pure (n:Int))) Q E s:=by
 obtain ⟨os,rD,HW,xo⟩:=id hs;unfold Builtin.Slice.sliceApplied Builtin.Slice.sliceFields;refine wpAny_bind (wpAny_bind (wpAny_field rD xo (x:=vl) rfl (wpAny_bind (wpAny_field rD xo (x:=vu) rfl (wpAny_bind (wpAny_field rD xo (x:= .none) rfl (wpAny_pure ?_)))))));refine wpAny_bind (slicePart_none ?_);show wpAny _ _ (if ((1:Int)==0)=true then _ else _) _ _ s;rw [if_neg (by decide)]
 refine wpAny_bind (m7 pl (wpAny_bind (m7 pu (wpAny_bind (wpAny_pure ?_)))));show wpAny _ _ (match Builtin.Slice.sliceAdjust lo hi 1 (n:Int) with| (lo,hi)=>pure (lo,(1:Int),Builtin.Slice.slicePlaces lo hi 1)) _ _ s
 rw [sC lo hi n];show wpAny _ _ (pure (((bo n 0 lo:Nat):Int),(1:Int),Builtin.Slice.slicePlaces ((bo n 0 lo:Nat):Int) ((bo n n hi:Nat):Int) 1)) _ _ s;rw [t5];exact wpAny_pure h
theorem xH(xs:Array Value)(i k:Nat):((List.range k).filterMap λ(m:Nat)=>xs[((i:Int)+(m:Int)*1).toNat]?).toArray=((xs.toList.drop i).take k).toArray:=by
 have e:(λ(m:Nat)=>xs[((i:Int)+(m:Int)*1).toNat]?)=λm=>xs[i+m]? :=by
  funext m
  have:((i:Int)+(m:Int)*1).toNat=i+m:=by omega
  rw [this]
 rw [e]
 have:=pick_run xs i k
 rw [List.filterMap_map] at this;have e2:((λx=>xs[x]?)∘λx=>i+x)=λm=>xs[i+m]? :=rfl;rw [e2] at this;rw [this]
theorem km{t sl:Addr}{items:Array Value}{vl vu:Value}{lo hi:Option Int}{Q:Value→Shared→Prop}(ht:IsTup s.heap t items)(hs:s.heap.IsSliceOf sl vl vu .none)(pl:IsPart vl lo)(pu:IsPart vu hi)
  (hw:¬(bo items.size 0 lo=0∧bo items.size items.size hi=items.size))
  (h:Q (.ref s.heap.objs.size) {s with heap:=s.heap.push {cls:= .type "tuple",data:= .seq ((items.toList.drop (bo items.size 0 lo)).take (bo items.size items.size hi-bo items.size 0 lo)).toArray}})
  (tH:items.size≤sizeLine):wpAny (model prog w) A (getItem (.ref t) (.ref sl)) Q E s:=by
 have rF:sizeOk (.seq ((items.toList.drop (bo items.size 0 lo)).take (bo items.size items.size hi-bo items.size 0 lo)).toArray):=by
  show ((items.toList.drop (bo items.size 0 lo)).take (bo items.size items.size hi-bo items.size 0 lo)).toArray.size≤sizeLine;rw [dM,jE,List.length_drop,fe];omega
 have hj:bo items.size items.size hi≤items.size:=B0 _ _ (bC _) hi;obtain ⟨os,rD,HW,xo⟩:=id hs;have MQ:s.TypeIs (.ref sl) "slice":=⟨os,rD,HW⟩;unfold getItem
 try with_reducible refine wpAny_holding ?_
 first|refine wpAny_bind (wpAny_pure ?_) |skip
 refine wpAny_bind (wpAny_sequenceKey ht.typeIs (by decide) ?_)
 refine wpAny_bind (wpAny_callSpecial?_slot (name:=Str.ofString "__getitem__") ht.typeIs PyProof.Rows.slot_tuple_getitem
  (wpAny_call_entry PyProof.Rows.slot_tuple_getitem ht.typeIs entry_tuple_getitem ?_ (args_tuple_getitem _ _)))
 show wpAny _ _ (Builtin.Tuple.tupleItemsOf (.ref t)>>=_) _ _ s;refine wpAny_bind (tupleItemsOf_ ht ?_);refine wpAny_bind (wpAny_typeOf MQ ?_);rw [if_pos (by decide)]
 refine wpAny_bind (lF hs pl pu ?_)
 have EV:¬((((bo items.size 0 lo:Nat):Int)==0&&(1:Int)==1&&(bo items.size items.size hi-bo items.size 0 lo)==items.size)=true):=by
  intro q;rw [pX,pX] at q;have q1:((bo items.size 0 lo:Nat):Int)=0:=eq_of_beq q.1.1;have q2:bo items.size items.size hi-bo items.size 0 lo=items.size:=eq_of_beq q.2;exact hw ⟨by omega,by omega⟩
 show wpAny _ _ (if (((bo items.size 0 lo:Nat):Int)==0&&(1:Int)==1&&(bo items.size items.size hi-bo items.size 0 lo)==items.size)=true then _ else _) _ _ s;rw [if_neg EV,xH]
 first
  |exact wpAny_bind (m:=Builtin.Tuple.tupleExact _) (wpAny_newObj_type (wpAny_pure ⟨_,rfl,wpAny_pure h⟩) rF)
  |exact wpAny_bind (m:=Builtin.Tuple.tupleExact _) (wpAny_newObj_type (wpAny_bind (wpAny_pure (wpAny_pure ⟨_,rfl,wpAny_pure h⟩))) rF)
  |exact wpAny_bind (wpAny_bind (m:=Builtin.Tuple.tupleExact _) (wpAny_newObj_type (wpAny_pure (wpAny_pure ⟨_,rfl,wpAny_pure h⟩)) rF))
  |exact wpAny_bind (wpAny_bind (m:=Builtin.Tuple.tupleExact _) (wpAny_newObj_type (wpAny_pure ⟨_,rfl,wpAny_pure h⟩) rF))
end
end HT
namespace L2
open PySem PySem.Spec PyProof.Rows
abbrev TO:=St→Hp→(Option Int→Hp→Prop)→Prop
def PO(X:Cx)(e:Option Expr)(t:TO):Prop:=
 ∀(pins:List (Addr×Obj))(s:Shared)(σ:St)(H:Hp)(Q:Option Int→Hp→Prop),Inv X pins σ H s→t σ H Q→
  wpAny (model X.prog X.w) X.A (evalPart e X.env) (λu s'=>∃o H',Inv X pins σ H' s'∧IsPart u o∧Q o H') X.xe s
def Ay:TO:=λ_ H Q=>Q none H
def FE(t:TE):TO:=λσ H Q=>t σ H λx H1=>∃i,x= .int i∧Q (some i) H1
theorem intsAre_of{ns:List Int}:∀{us:List Value},Vals (ns.map V.int) us→IntsAre us ns:=by
 induction ns with
 |nil=>intro us r;rw [List.map_nil] at r;cases r;exact .nil
 |cons n ns ih=>
  intro us r;rw [i9] at r;cases r with
  |cons r1 r2=>
   obtain ⟨t,e⟩:=r1;subst e;exact .cons n t (ih r2)
section
variable {X:Cx} {e:Expr} {te:TE} {lo hi:Option Expr} {tl th:TO} {pos p2:Pos}
theorem z0:PO X none Ay:=by
 intro pins s σ H Q I h;rw [evalPart_none];exact wpAny_pure ⟨none,H,I, .none,h⟩
theorem z1(h:PE X e te):PO X (some e) (FE te):=by
 intro pins s σ H Q I hw;rw [evalPart_some];refine thn (h pins s σ H _ I hw) λu s1 ⟨x,H1,I1,r1,q1⟩=>?_;obtain ⟨i,rfl,q⟩:=q1;obtain ⟨t,rfl⟩:=r1;exact ⟨some i,H1,I1, .int i t,q⟩
def uE(X:Cx)(r:V→Option Int→Option Int→Hp→VK→Prop):Prop:=
 ∀(pins:List (Addr×Obj))(s:Shared)(σ:St)(H:Hp)(x:V)(v vl vu:Value)(lo hi:Option Int)(sl:Addr)(Q:VK),Inv X pins σ H s→RelV x v→s.heap.IsSliceOf sl vl vu .none→IsPart vl lo→IsPart vu hi→r x lo hi H Q→
  ∃T id,typeLookup (.type T) "__getitem__"=pure (some (.builtin id))∧s.TypeIs v T∧wpAny (model X.prog X.w) X.A (getItem v (.ref sl)) (EP X pins σ Q) X.xe s
theorem uE.or{r r':V→Option Int→Option Int→Hp→VK→Prop}(h:uE X r)(h':uE X r'):uE X (λx lo hi H Q=>r x lo hi H Q∨r' x lo hi H Q):=by
 intro pins s σ H x v vl vu lo hi sl Q I rx hs pl pu q
 rcases q with q|q
 ·exact h pins s σ H x v vl vu lo hi sl Q I rx hs pl pu q
 ·exact h' pins s σ H x v vl vu lo hi sl Q I rx hs pl pu q
def QL(r:V→Option Int→Option Int→Hp→VK→Prop)(te:TE)(tl th:TO):TE:=λσ H Q=>te σ H λx H1=>tl σ H1 λl H2=>th σ H2 λu H3=>r x l u H3 Q
theorem xG{r:V→Option Int→Option Int→Hp→VK→Prop}(hr:uE X r)(he:PE X e te)(hl:PO X lo tl)(hu:PO X hi th):PE X (.Subscript e (.Slice lo hi none p2) pos) (QL r te tl th):=by
 intro pins s σ H Q I h;refine Subscript_ (thn (he pins s σ H _ I h) λv s1 ⟨x,H1,I1,r1,q1⟩=>?_);refine wpAny_Slice (thn (hl pins s1 σ H1 _ I1 q1) λvl s2 ⟨l,H2,I2,pl,q2⟩=>thn (hu pins s2 σ H2 _ I2 q2) λvu s3 ⟨u,H3,I3,pu,q3⟩=>?_);rw [evalPart_none];refine wpAny_pure ?_;have I4:Inv X pins σ H3 {s3 with heap:=s3.heap.push {cls:= .type "slice",data:= .fields #[vl,vu, .none]}}:=I3.kept (t':=s3.toks) λb ob q=>Heap.get?_push_of_some _ q
 obtain ⟨T,id,hT,ht,hg⟩:=hr pins {s3 with heap:=s3.heap.push {cls:= .type "slice",data:= .fields #[vl,vu, .none]}} σ H3 x v vl vu l u s3.heap.objs.size Q I4 r1 (Heap.IsSliceOf.new ..) pl pu q3
 show wpAny (model X.prog X.w) X.A (subscriptTail e (.Slice lo hi none p2) v (.ref s3.heap.objs.size)) (EP X pins σ Q) X.xe {s3 with heap:=s3.heap.push {cls:= .type "slice",data:= .fields #[vl,vu, .none]}}
 exact tail_any (ops:= [.ref s3.heap.objs.size,v]) ht hT hg (by with_unfolding_all rfl)
def mM(xs:List V)(lo hi:Option Int):List V:=(xs.drop (HT.bo xs.length 0 lo)).take (HT.bo xs.length xs.length hi-HT.bo xs.length 0 lo)
theorem kK(xs:List V)(lo hi:Option Int):(mM xs lo hi).length≤xs.length:=by
 unfold mM;rw [jE,List.length_drop];omega
def Kj(K:PySem.W.Frag):V→Option Int→Option Int→Hp→VK→Prop:=λx lo hi H Q=>∃a xs,x= .ref a∧dH K H a xs∧
 ¬(HT.bo xs.length 0 lo=0∧HT.bo xs.length xs.length hi=xs.length)∧∀p,H p=none→Q (.ref p) (upd H p (.tup (mM xs lo hi)))
theorem B3:uE X (Kj X.K):=by
 intro pins s σ H x v vl vu lo hi sl Q I rx hs pl pu h;obtain ⟨a,xs,rfl,hx,hw,q⟩:=h;cases rx;obtain ⟨its,r,ht,hz⟩:=I.tuple hx;have hlen:its.toArray.size=xs.length:=by rw [dM];exact r.length.symm
 refine ⟨"tuple",_,PyProof.Rows.slot_tuple_getitem.lookup,ht.typeIs,?_⟩;refine HT.km ht hs pl pu (by rw [hlen];exact hw) ?_ (by rw [hlen];exact hz)
 rw [hlen];refine ⟨.ref s.heap.objs.size,_,I.laid (t':=s.toks) (o:= .tup (mM xs lo hi)) (λb ob q=>Heap.get?_push_of_some _ q) (bC _) ?_,rfl,q _ (I.hok.fresh (bC _))⟩;exact ⟨jG (kK xs lo hi) hz,_,(r.drop (HT.bo xs.length 0 lo)).take (HT.bo xs.length xs.length hi-HT.bo xs.length 0 lo),IsTup.new _ _⟩
def Fp(K:PySem.W.Frag):R2:=λx y H Q=>∃a b xs ys,x= .ref a∧y= .ref b∧dH K H a xs∧dH K H b ys∧xs≠ []∧xs.length+ys.length≤sizeLine∧
 (ys= []→Q (.ref a) H)∧(ys≠ []→∀p,H p=none→Q (.ref p) (upd H p (.tup (xs++ys))))
theorem Vals.pb{xs:List V}{us:List Value}(r:Vals xs us):us= []↔xs= []:=by
 cases r with
 |nil=>simp
 |cons _ _=>simp
theorem zN:OpR X (binaryOp .Add) (Fp X.K):=by
 intro pins s σ H x y v u Q I rx ry h;obtain ⟨a,b,xs,ys,rfl,rfl,ha,hb,hx,hz,q1,q2⟩:=h;cases rx;cases ry;obtain ⟨its,r1,p1,_⟩:=I.tuple ha;obtain ⟨mT,r2,p2,_⟩:=I.tuple hb;refine HT.yn p1 p2 (λz=>hx (r1.pb.mp z)) (λz=>⟨.ref a,H,I,rfl,q1 (r2.pb.mp z)⟩) (λz=>?_) (by rw [←r1.length,←r2.length];exact hz)
 refine ⟨.ref s.heap.objs.size,_,I.laid (t':=s.toks) (o:= .tup (xs++ys)) (λb ob q=>Heap.get?_push_of_some _ q) (bC _) ?_,rfl,q2 (λw=>z (r2.pb.mpr w)) _ (I.hok.fresh (bC _))⟩;exact ⟨by rw [cu];exact hz,_,r1.append r2,IsTup.new _ _⟩
end
def dZ(n:Nat)(i:Int):Option Nat:=if 0≤i then (if i<n then some i.toNat else none) else if-(n:Int)≤i then some (i+n).toNat else none
def cV{α:Type}(xs:List α)(i:Int):Option α:=(dZ xs.length i).bind λj=>xs[j]?
theorem tL{n:Nat}{i:Int}{j:Nat}(h:dZ n i=some j):seqIndex? i n=some j∧j<n∧-(n:Int)≤i∧i<n:=by
 unfold dZ at h
 by_cases h0:0≤i
 ·rw [if_pos h0] at h
  by_cases h1:i<n
  ·rw [if_pos h1] at h
   have e:i.toNat=j:=Option.some.inj h;exact ⟨by rw [seqIndex_of h0 h1,e],by omega,by omega,h1⟩
  ·rw [if_neg h1] at h;cases h
 ·rw [if_neg h0] at h
  by_cases h1: -(n:Int)≤i
  ·rw [if_pos h1] at h
   have e:(i+n).toNat=j:=Option.some.inj h;exact ⟨by rw [seqIndex_neg (by omega) h1,e],by omega,h1,by omega⟩
  ·rw [if_neg h1] at h;cases h
theorem sD{α:Type}{xs:List α}{i:Int}{v:α}(h:cV xs i=some v):∃j,seqIndex? i xs.length=some j∧xs[j]? =some v∧j<xs.length∧-(xs.length:Int)≤i∧i<xs.length:=by
 unfold cV at h;cases e:dZ xs.length i with
 |none=>rw [e] at h;cases h
 |some j=>
  rw [e] at h;obtain ⟨h1,h2,h3,h4⟩:=tL e;exact ⟨j,h1,h,h2,h3,h4⟩
theorem sE{α:Type}{xs:List α}{j:Nat}{v:α}(h:xs[j]? =some v):cV xs (j:Int)=some v:=by
 have hj:j<xs.length:=(dU.mp h).1
 have e:dZ xs.length (j:Int)=some j:=by
  unfold dZ;rw [if_pos (by omega),if_pos (by omega)];simp
 unfold cV;rw [e];exact h
def jh(b:Expr):Prop:=∀o i,subscripted b false o i=operate [o,i] (getItem o i)
def uB(X:Cx)(r:R2):Prop:=
 ∀(value slice:Expr)(pins:List (Addr×Obj))(s:Shared)(σ:St)(H:Hp)(x y:V)(v u:Value)(Q:VK),Inv X pins σ H s→RelV x v→RelV y u→r x y H Q→
  subscripted slice false v u=operate [v,u] (getItem v u)→wpAny (model X.prog X.w) X.A (subscriptTail value slice v u) (EP X pins σ Q) X.xe s
def AK(X:Cx)(id:String)(r:V→List V→Hp→VK→Prop):Prop:=
 ∀(pins:List (Addr×Obj))(s:Shared)(σ:St)(H:Hp)(x:V)(xs:List V)(v:Value)(us:List Value)(Q:VK),Inv X pins σ H s→RelV x v→Vals xs us→r x xs H Q→
  wpAny (model X.prog X.w) X.A (call (.builtin id) (v::us)) (EP X pins σ Q) X.xe s
section
variable {X:Cx} {a b:Expr} {ta tb:TE} {pos:Pos}
theorem uB.or{r r':R2}(h:uB X r)(h':uB X r'):uB X (λx y H Q=>r x y H Q∨r' x y H Q):=by
 intro value slice pins s σ H x y v u Q I rx ry q hs
 rcases q with q|q
 ·exact h value slice pins s σ H x y v u Q I rx ry q hs
 ·exact h' value slice pins s σ H x y v u Q I rx ry q hs
theorem rY{r:R2}(hr:uB X r)(ha:PE X a ta)(hb:PE X b tb)(hs:jh b):PE X (.Subscript a b pos) (Az r ta tb):=by
 intro pins s σ H Q I h;exact Subscript_ (yi ha hb I h λv u s2 x y H2 I2 rx ry q=>hr a b pins s2 σ H2 x y v u Q I2 rx ry q (hs _ _))
def Kd(K:PySem.W.Frag):R2:=λx y H Q=>∃p xs i v,x= .ref p∧y= .int i∧bx K H p xs∧cV xs i=some v∧Q v H
def Ke(K:PySem.W.Frag):R2:=λx y H Q=>∃p xs i v,x= .ref p∧y= .int i∧dH K H p xs∧cV xs i=some v∧Q v H
theorem kX:uB X (Kd X.K):=by
 intro value slice pins s σ H x y v u Q I rx ry h hs;obtain ⟨p,xs,i,z,rfl,rfl,hq,he,q⟩:=h;cases rx;obtain ⟨t,rfl⟩:=ry;obtain ⟨its,r,pl,hz⟩:=I.list hq;obtain ⟨j,h1,h2,h3,h4,h5⟩:=sD he;obtain ⟨w,ew,Ah⟩:=r.get h2;have hl:=r.length;have hn:=jP;have fin:EP X pins σ Q w s:=⟨z,H,I,Ah,q⟩
 by_cases h0:0≤i
 ·have hj:i.toNat=j:=by
   rw [seqIndex_of h0 h5] at h1;exact Option.some.inj h1
  exact item_listR pl.isList h0 (by omega) (by rw [hj];simpa using ew) fin hs
 ·have hj:(i+(its.toArray.size:Int)).toNat=j:=by
   rw [seqIndex_neg (by omega) h4] at h1
   rw [dM,←hl];exact Option.some.inj h1
  exact subscriptTail_builtinR (x:=w) pl.isList.typeIs slot_list_getitem.lookup
   (wpAny_getItem_list_neg (Q:=λr s'=>r=w∧EP X pins σ Q r s') pl.isList (by omega) (by rw [dM]<;>omega) (by omega) (by rw [hj];simpa using ew) ⟨rfl,fin⟩) hs
theorem Bf:uB X (Ke X.K):=by
 intro value slice pins s σ H x y v u Q I rx ry h hs;obtain ⟨p,xs,i,z,rfl,rfl,hq,he,q⟩:=h;cases rx;obtain ⟨t,rfl⟩:=ry;obtain ⟨its,r,pl,hz⟩:=I.tuple hq;obtain ⟨j,h1,h2,h3,h4,h5⟩:=sD he;obtain ⟨w,ew,Ah⟩:=r.get h2;have hl:=r.length;have hn:=jP;have fin:EP X pins σ Q w s:=⟨z,H,I,Ah,q⟩
 exact subscriptTail_builtinR (x:=w) pl.typeIs slot_tuple_getitem.lookup
  (getItem_tuple (j:=j) (Q:=λr s'=>r=w∧EP X pins σ Q r s') pl (by omega) (by omega) (by rw [dM,←hl];exact h1) (by simpa using ew) ⟨rfl,fin⟩) hs
theorem tP(its:List Value)(n j:Nat)(u:Value):Obj.mapSeq (·.setIfInBounds j u) {cls:= .type "list",data:= .seq its.toArray n}={cls:= .type "list",data:= .seq (its.set j u).toArray n}:=by
 simp [Obj.mapSeq]
theorem Inv.lst{pins:List (Addr×Obj)}{σ:St}{H:Hp}{s:Shared}{p:Addr}{xs:List V}(I:Inv X pins σ H s)(h:H p=some (.lst xs)):
  ∃(its:List Value)(n:Nat),Vals xs its∧s.heap.get? p=some {cls:= .type "list",data:= .seq its.toArray n}∧xs.length≤sizeLine:=by
 obtain ⟨z,its,n,r,e⟩:=I.hok p _ h;exact ⟨its,n,r,e,z⟩
theorem Inv.Bp{pins:List (Addr×Obj)}{σ:St}{H:Hp}{s:Shared}{p:Addr}{xs ys:List V}{its its':List Value}{n n':Nat}{f:Obj→Obj}(I:Inv X pins σ H s)(h:H p=some (.lst xs))
  (ho:s.heap.get? p=some {cls:= .type "list",data:= .seq its.toArray n}) (hf:f {cls:= .type "list",data:= .seq its.toArray n}={cls:= .type "list",data:= .seq its'.toArray n'}) (r:Vals ys its') (hz:ys.length≤sizeLine) (t:Nat):
  Inv X pins σ (upd H p (.lst ys)) {s with heap:=s.heap.update p f,toks:=t}:=by
 have e:(s.heap.update p f).get? p=some {cls:= .type "list",data:= .seq its'.toArray n'}:=by
  rw [Heap.get?_update_self f ho (by rw [hf]<;>rfl),hf]
 refine I.write (x:=p) (e:=p) (by rw [h];trivial) (.inl rfl) (λb u hb q=>(Heap.get?_update_other _ _ (Ne.symm hb)).trans q) ⟨_,e⟩ ?_
 exact ⟨hz,its',n',r,e⟩
def Fs:V→V→V→Hp→(Hp→Prop)→Prop:=λo i v H Q=>∃p xs k j,o= .ref p∧i= .int k∧H p=some (.lst xs)∧dZ xs.length k=some j∧Q (upd H p (.lst (xs.set j v)))
theorem set_list:Cm X Fs:=by
 intro pins s σ H o i v ov iv u Q I ro ri rv h;obtain ⟨p,xs,k,j,rfl,rfl,hp,hj,q⟩:=h;cases ro;obtain ⟨t,rfl⟩:=ri;obtain ⟨its,n,r,ho,hz⟩:=I.lst hp;obtain ⟨h1,h2,h3,h4⟩:=tL hj;have hl:=r.length;have hn:=jP
 have I':Inv X pins σ (upd H p (.lst (xs.set j v))) {s with heap:=s.heap.update p (Obj.mapSeq (·.setIfInBounds j u))}:=
  I.Bp hp ho (tP its n j u) (r.set rv j) (by rw [fG];exact hz) s.toks
 by_cases h0:0≤k
 ·have hk:k.toNat=j:=by
   rw [seqIndex_of h0 h4] at h1;exact Option.some.inj h1
  exact PySem.W.ki_setAt ho h0 (by omega) (by rw [dM,←hl];exact h4) (by rw [hk];exact ⟨_,I',q⟩)
 ·have hk:(k+(its.toArray.size:Int)).toNat=j:=by
   rw [seqIndex_neg (by omega) h3] at h1
   rw [dM,←hl];exact Option.some.inj h1
  exact PySem.W.ki_setBack ho (by omega) (by rw [dM,←hl];exact h3) (by omega) (by rw [hk];exact ⟨_,I',q⟩)
theorem qg(lo hi:Option Int)(n:Nat):(sliceBounds lo hi none n).1=((HT.bo n 0 lo:Nat):Int)∧(sliceBounds lo hi none n).2.1=((HT.bo n n hi:Nat):Int)∧(sliceBounds lo hi none n).2.2=1:=by
 refine ⟨?_,?_,rfl⟩
 ·cases lo with
  |none=>simp [sliceBounds,HT.bo]
  |some i=>
   simp only [sliceBounds,HT.bo,Option.getD_none,show (1:Int)>0 by decide,if_true]
   by_cases h:i<0
   ·simp only [h,if_true]<;>omega
   ·simp only [h,if_false]<;>omega
 ·cases hi with
  |none=>simp [sliceBounds,HT.bo]
  |some i=>
   simp only [sliceBounds,HT.bo,Option.getD_none,show (1:Int)>0 by decide,if_true]
   by_cases h:i<0
   ·simp only [h,if_true]<;>omega
   ·simp only [h,if_false]<;>omega
theorem pQ(its:List Value)(lo hi:Option Int):slicePick its.toArray lo hi none=((its.drop (HT.bo its.length 0 lo)).take (HT.bo its.length its.length hi-HT.bo its.length 0 lo)).toArray:=by
 obtain ⟨h1,h2,h3⟩:=qg lo hi its.toArray.size;unfold slicePick;rw [h1,h2,h3];simp only [sliceRange_one,pick_run,dM]<;>rfl
def Ki(K:PySem.W.Frag):V→Option Int→Option Int→Hp→VK→Prop:=λx lo hi H Q=>∃a xs,x= .ref a∧bx K H a xs∧∀p,H p=none→Q (.ref p) (upd H p (.lst (mM xs lo hi)))
theorem Ak:uE X (Ki X.K):=by
 intro pins s σ H x v vl vu lo hi sl Q I rx hs pl pu h;obtain ⟨a,xs,rfl,hx,q⟩:=h;cases rx;obtain ⟨its,r,ht,hz⟩:=I.list hx;have hlen:=r.length;refine ⟨"list",_,slot_list_getitem.lookup,ht.isList.typeIs,?_⟩;refine wpAny_getItem_list_slice ht.isList hs pl pu .none (by simp) ?_ (by rw [dM]<;>omega)
 rw [pQ,←hlen];refine ⟨.ref s.heap.objs.size,_,I.laid (t':=s.toks) (o:= .lst (mM xs lo hi)) (λb ob q=>Heap.get?_push_of_some _ q) (bC _) ?_,rfl,q _ (I.hok.fresh (bC _))⟩;exact ⟨jG (kK xs lo hi) hz,_,0,(r.drop (HT.bo xs.length 0 lo)).take (HT.bo xs.length xs.length hi-HT.bo xs.length 0 lo),Heap.get?_push_size _ rfl⟩
def eC:V→Bool
 | .aN=>true
 | .bl _=>true
 | .int _=>true
 | .str _=>true
 |_=>false
def oH:V→V→Bool
 | .aN, .aN=>true
 | .bl a, .bl b=>a==b
 | .bl a, .int b=>(if a then 1 else 0)==b
 | .int a, .bl b=>a==(if b then 1 else 0)
 | .int a, .int b=>a==b
 | .str a, .str b=>a==b
 |_,_=>false
theorem AY{A:Around}{s:Shared}{y x:V}{u v:Value}(ry:RelV y u)(rx:RelV x v)(fy:eC y=true)(fx:eC x=true):SeqAt.EqAt A s u v (oH y x):=by
 cases y with
 |aN=>
  cases ry;cases x with
  |aN=>cases rx;exact SeqAt.EqAt.same _
  |bl b=>cases rx;exact SeqAt.EqAt.none_bool b
  |int b=>obtain ⟨t,rfl⟩:=rx;exact SeqAt.EqAt.none_int b t
  |str b=>obtain ⟨t,rfl⟩:=rx;exact SeqAt.EqAt.none_str b t
  |_=>exact absurd (show false=true from fx) b8
 |bl a=>
  cases ry;cases x with
  |aN=>cases rx;exact SeqAt.EqAt.bool_none a
  |bl b=>cases rx;exact SeqAt.EqAt.bool_bool a b
  |int b=>obtain ⟨t,rfl⟩:=rx;exact SeqAt.EqAt.bool_int a b t
  |str b=>obtain ⟨t,rfl⟩:=rx;exact SeqAt.EqAt.bool_str a b t
  |_=>exact absurd (show false=true from fx) b8
 |int a=>
  obtain ⟨t',rfl⟩:=ry;cases x with
  |aN=>cases rx;exact SeqAt.EqAt.int_none a t'
  |bl b=>cases rx;exact SeqAt.EqAt.int_bool a t' b
  |int b=>obtain ⟨t,rfl⟩:=rx;exact SeqAt.EqAt.int_int a t' b t
  |str b=>obtain ⟨t,rfl⟩:=rx;exact SeqAt.EqAt.int_str a t' b t
  |_=>exact absurd (show false=true from fx) b8
 |str a=>
  obtain ⟨t',rfl⟩:=ry;cases x with
  |aN=>cases rx;exact SeqAt.EqAt.str_none a t'
  |bl b=>cases rx;exact SeqAt.EqAt.str_bool a t' b
  |int b=>obtain ⟨t,rfl⟩:=rx;exact SeqAt.EqAt.str_int a t' b t
  |str b=>obtain ⟨t,rfl⟩:=rx;exact SeqAt.EqAt.str_str a t' b t
  |_=>exact absurd (show false=true from fx) b8
 |_=>exact absurd (show false=true from fy) b8
def jX(x:V)(u:Value):Bool:=match u with
 | .none=>oH .aN x
 | .bool b=>oH (.bl b) x
 | .int i _=>oH (.int i) x
 | .str z _=>oH (.str z) x
 |_=>false
theorem nS{x y:V}{u:Value}(r:RelV y u)(f:eC y=true):jX x u=oH y x:=by
 cases y with
 |aN=>cases r;rfl
 |bl b=>cases r;rfl
 |int i=>obtain ⟨t,rfl⟩:=r;rfl
 |str z=>obtain ⟨t,rfl⟩:=r;rfl
 |_=>exact absurd (show false=true from f) b8
theorem ji{x:V}:∀{xs:List V}{us:List Value},Vals xs us→xs.all eC=true→us.any (jX x)=xs.any λy=>oH y x
 |_,_, .nil,_=>rfl
 |y::xs,u::us, .cons r t,f=>by
  rw [List.all_cons,pX] at f;rw [List.any_cons,List.any_cons,nS r f.1,ji t f.2]
theorem fU{A:Around}{s:Shared}{x:V}{v:Value}(rx:RelV x v)(fx:eC x=true):∀{xs:List V}{us:List Value},Vals xs us→xs.all eC=true→∀u∈us,SeqAt.EqAt A s u v (jX x u)
 |_,_, .nil,_=>λu hu=>by cases hu
 |y::xs,u::us, .cons r t,f=>λu' hu=>by
  rw [List.all_cons,pX] at f
  rcases cF.mp hu with rfl|hu
  ·rw [nS r f.1];exact AY r rx f.1 fx
  ·exact fU rx fx t f.2 u' hu
def Bd(x:V)(xs:List V):Bool:=xs.any λy=>oH y x
def Fq(K:PySem.W.Frag)(neg:Bool):R2:=λx y H Q=>∃p xs,y= .ref p∧(bx K H p xs∨dH K H p xs)∧eC x=true∧xs.all eC=true∧Q (.bl (if neg then !Bd x xs else Bd x xs)) H
theorem vx:OpR X (compareOp .In) (Fq X.K false):=by
 intro pins s σ H x y v u Q I rx ry h;obtain ⟨p,xs,rfl,hq,fx,fs,q⟩:=h;cases ry
 rcases hq with hq|hq
 ·obtain ⟨its,r,pl,hz⟩:=I.list hq
  refine SeqAt.in_listAt (jX x) pl.isList (λw hw=>fU rx fx r fs w (by simpa using hw)) ⟨.bl _,H,I,rfl,?_⟩
  rw [show its.toArray.any (jX x)=its.any (jX x) by simp,ji r fs]
  exact q
 ·obtain ⟨its,r,pl,hz⟩:=I.tuple hq
  refine SeqAt.in_tupleAt (jX x) pl (λw hw=>fU rx fx r fs w (by simpa using hw)) ⟨.bl _,H,I,rfl,?_⟩
  rw [show its.toArray.any (jX x)=its.any (jX x) by simp,ji r fs]
  exact q
theorem qf:OpR X (compareOp .NotIn) (Fq X.K true):=by
 intro pins s σ H x y v u Q I rx ry h;obtain ⟨p,xs,rfl,hq,fx,fs,q⟩:=h;cases ry
 rcases hq with hq|hq
 ·obtain ⟨its,r,pl,hz⟩:=I.list hq
  refine SeqAt.notIn_listAt (jX x) pl.isList (λw hw=>fU rx fx r fs w (by simpa using hw)) ⟨.bl _,H,I,rfl,?_⟩
  rw [show its.toArray.any (jX x)=its.any (jX x) by simp,ji r fs]
  exact q
 ·obtain ⟨its,r,pl,hz⟩:=I.tuple hq
  refine SeqAt.notIn_tupleAt (jX x) pl (λw hw=>fU rx fx r fs w (by simpa using hw)) ⟨.bl _,H,I,rfl,?_⟩
  rw [show its.toArray.any (jX x)=its.any (jX x) by simp,ji r fs]
  exact q
theorem p9:cU X (.builtin "len") (λxs H Q=>∃p ys,xs= [.ref p]∧(bx X.K H p ys∨dH X.K H p ys)∧Q (.int ys.length) H):=by
 intro pins s σ H xs us Q I r h;obtain ⟨p,ys,rfl,hq,q⟩:=h;obtain ⟨u,rfl,rx⟩:=vals1 r;cases rx;have hn:=jP
 rcases hq with hq|hq
 ·obtain ⟨its,r',pl,hz⟩:=I.list hq
  have hlen:=r'.length;exact Calls.call_len_list pl.isList (by simp only [dM]<;>omega) ⟨.int ys.length,H,I.tok _,⟨s.toks+1,by rw [dM,hlen]⟩,q⟩
 ·obtain ⟨its,r',pl,hz⟩:=I.tuple hq
  have hlen:=r'.length;exact len_tuple pl (by simp only [dM]<;>omega) ⟨.int ys.length,H,I.tok _,⟨s.toks+1,by rw [dM,hlen]⟩,q⟩
theorem j0:cU X (.type "list") (λxs H Q=>∃p ys,xs= [.ref p]∧(bx X.K H p ys∨dH X.K H p ys)∧∀l,H l=none→Q (.ref l) (upd H l (.lst ys))):=by
 intro pins s σ H xs us Q I r h;obtain ⟨p,ys,rfl,hq,q⟩:=h;obtain ⟨u,rfl,rx⟩:=vals1 r;cases rx
 have fin:∀(its:List Value),Vals ys its→ys.length≤sizeLine→∀(h':Heap)(c':Nat),(∀b o',s.heap.get? b=some o'→h'.get? b=some o')→
   h'.get? s.heap.objs.size=some {cls:= .type "list",dict:=none,data:= .seq its.toArray c',slots:= #[]}→EP X pins σ Q (.ref s.heap.objs.size) {s with heap:=h'}:=λits r' hz h' c' kp e=>
  ⟨.ref s.heap.objs.size,_,I.laid (t':=s.toks) kp (bC _) (show bL X.prog X.w _ h' _ (.lst ys) from ⟨hz,its,c',r',e⟩),rfl,q _ (I.hok.fresh (bC _))⟩
 rcases hq with hq|hq
 ·obtain ⟨its,r',pl,hz⟩:=I.list hq
  have hlen:=r'.length;obtain ⟨o,ho,hc,n,hd⟩:=pl.isList;exact call_list_seq p (.inl rfl) ho hc hd (λh' c' kp e=>fin its r' hz h' c' kp e) (by simp only [dM]<;>omega)
 ·obtain ⟨its,r',pl,hz⟩:=I.tuple hq
  have hlen:=r'.length;obtain ⟨o,ho,hc,n,hd⟩:=pl;exact call_list_seq p (.inr rfl) ho hc hd (λh' c' kp e=>fin its r' hz h' c' kp e) (by simp only [dM]<;>omega)
def Ce(K:PySem.W.Frag)(T:String)(x:V)(H:Hp):Prop:=match x with
 | .str _=>T="str"
 | .int _=>T="int"
 | .ref p=>(T="list"∧∃xs,bx K H p xs)∨(T="tuple"∧∃o,K.lookup p=some o∧o.cls= .type "tuple"∧o.dict=none)∨
   (T="dict"∧((∃ck,H p=some (.dK ck))∨∃ck,H p=some (.dT ck)))∨(T="set"∧∃S n,H p=some (.set S n))
 |_=>False
theorem wI{pins:List (Addr×Obj)}{σ:St}{H:Hp}{s:Shared}{T:String}{x:V}{v:Value}(I:Inv X pins σ H s)(r:RelV x v)(ty:Ce X.K T x H):
  s.TypeIs v T∧∀a,v= .ref a→∃ob,s.heap.get? a=some ob∧ob.dict=none:=by
 cases x with
 |str z=>
  obtain ⟨t,rfl⟩:=r;cases (show T="str" from ty);exact ⟨typeIs_str s z t,λ_ e=>nomatch e⟩
 |int i=>
  obtain ⟨t,rfl⟩:=r;cases (show T="int" from ty);exact ⟨typeIs_int s i t,λ_ e=>nomatch e⟩
 |ref p=>
  cases r
  rcases ty with ⟨rfl,xs,hq⟩ | ⟨rfl,o,hk,hc,hd⟩ | ⟨rfl,hk⟩ | ⟨rfl,S,n,hk⟩
  ·obtain ⟨its,_,pl,_⟩:=I.list hq
   refine ⟨pl.isList.typeIs,λa e=>?_⟩;cases e;obtain ⟨o,n,e,c,hd,_⟩:=pl;exact ⟨o,e,hd⟩
  ·refine ⟨⟨o,I.fM p o hk,hc⟩,λa e=>?_⟩
   cases e;exact ⟨o,I.fM _ o hk,hd⟩
  ·have z:∃o,s.heap.get? p=some o∧o.ExactDict:=by
    rcases hk with ⟨ck,hk⟩ | ⟨ck,hk⟩
    ·obtain ⟨_,_,_,_,o,_,_,e,ex,_⟩:=I.hok p _ hk
     exact ⟨o,e,ex⟩
    ·obtain ⟨_,_,_,_,o,_,_,e,ex,_⟩:=I.hok p _ hk
     exact ⟨o,e,ex⟩
   obtain ⟨o,e,ex⟩:=z;refine ⟨⟨o,e,ex.1⟩,λa e2=>?_⟩;cases e2;exact ⟨o,e,ex.2.1⟩
  ·obtain ⟨o,_,_,_,e,ex,_⟩:=I.hok p _ hk
   refine ⟨⟨o,e,ex.1⟩,λa e2=>?_⟩;cases e2;exact ⟨o,e,ex.2.1⟩
 |_=>exact False.elim ty
def KL(K:PySem.W.Frag)(T:String)(r:V→List V→Hp→VK→Prop)(to:TE):TE:=λσ H Q=>to σ H λx H1=>Ce K T x H1∧r x [] H1 Q
def QJ(K:PySem.W.Frag)(T:String)(r:V→List V→Hp→VK→Prop)(to:TE)(t:TA):TE:=λσ H Q=>to σ H λx H1=>Ce K T x H1∧t σ H1 λxs H2=>r x xs H2 Q
variable {o e:Expr} {es:List Expr} {to:TE} {t:TA} {name:Str} {apos aL:Pos} {T id:String} {r:V→List V→Hp→VK→Prop}
theorem BG(pa:PlainAttrs T)(slot:Slot T name id)(zj:typeOf (.builtin id)=pure (.type "method_descriptor"))(hm:AK X id r)(ho:PE X o to)
  (cI:attributeBase o name X.env (eval o X.env)=eval o X.env:=by rfl) (cg:(apos.endLine==aL.line)=true:=by rfl):PE X (.Call (.Attribute o name apos) [] [] aL) (KL X.K T r to):=by
 intro pins s σ H Q I h;refine wpAny_Call_method0_late cI cg (thn (ho pins s σ H _ I h) λv s1 ⟨x,H1,I1,r1,ty,q1⟩=>?_);obtain ⟨h1,h2⟩:=wI I1 r1 ty;exact ⟨T,id,pa,slot,zj,h1,h2,Calls.callWith_builtin rfl (PySem.evalArgs_none (hm pins s1 σ H1 x [] v [] Q I1 r1 .nil q1))⟩
theorem rX(pa:PlainAttrs T)(slot:Slot T name id)(zj:typeOf (.builtin id)=pure (.type "method_descriptor"))(hm:AK X id r)(ho:PE X o to)(ha:PA X (e::es) t)
  (cI:attributeBase o name X.env (eval o X.env)=eval o X.env:=by rfl)
  (ik:((backTo aL (starEach (e::es) X.env)).all (λx=>!x.1)&&(backToKw aL (keywordEach [] X.env)).all (λx=>x.1.isSome)
   &&decide ((e::es).length+([]:List Keyword).length+(if ([]:List Keyword).isEmpty then 0 else 1)<30))=true:=by rfl)
  (cg:(apos.endLine==aL.line)=true:=by rfl) (hs:starEach (e::es) X.env=(false,eval e X.env)::starEach es X.env:=by rfl) (cO:(backTo aL (starEach es X.env)).any (·.1)=false:=by rfl):
  PE X (.Call (.Attribute o name apos) (e::es) [] aL) (QJ X.K T r to t):=by
 intro pins s σ H Q I h;refine wpAny_Call_method_late cI ik cg rfl (thn (ho pins s σ H _ I h) λv s1 ⟨x,H1,I1,r1,ty,q1⟩=>?_);obtain ⟨h1,h2⟩:=wI I1 r1 ty;refine ⟨T,id,pa,slot,zj,h1,h2,?_⟩;have hA:=ha aL pins s1 σ H1 _ I1 q1;rw [hs] at hA ⊢;refine Calls.callWith_builtin (by show (false|| (backTo aL (starEach es X.env)).any (·.1))=false;rw [cO]<;>rfl) (Calls.evalArgs_plain ?_)
 exact thn hA λus s2 ⟨vs,H2,I2,r2,q2⟩=>hm pins s2 σ H2 x vs v us Q I2 r1 r2 q2
end
def AJ(X:Cx)(id:String)(r:V→List V→Hp→VK→Prop):Prop:=
 ∀(pins:List (Addr×Obj))(s:Shared)(σ:St)(H:Hp)(x:V)(xs:List V)(v:Value)(us:List Value)(Q:VK),Inv X pins σ H s→RelV x v→Vals xs us→r x xs H Q→
  wpAny (model X.prog X.w) X.A (call (.builtin id) (v::us)) (EP X pins σ Q) X.xe s
theorem Vals.one:∀{x:V}{us:List Value},Vals [x] us→∃u,us= [u]∧RelV x u
 |_,_, .cons r .nil=>⟨_,rfl,r⟩
theorem Vals.two:∀{x y:V}{us:List Value},Vals [x,y] us→∃u v,us= [u,v]∧RelV x u∧RelV y v
 |_,_,_, .cons r (.cons q .nil)=>⟨_,_,rfl,r,q⟩
theorem Vals.zero:∀{us:List Value},Vals [] us→us= []
 |_, .nil=>rfl
theorem Vals.dropLast{xs:List V}{us:List Value}(h:Vals xs us):Vals xs.dropLast us.dropLast:=by
 induction h with
 |nil=>exact .nil
 |cons r t ih=>
  cases t with
  |nil=>exact .nil
  |cons q t'=>exact .cons r ih
theorem Vals.rep{xs:List V}{us:List Value}(h:Vals xs us):∀k:Nat,Vals (List.replicate k xs).flatten (List.replicate k us).flatten
 |0=> .nil
 |k+1=>by
  rw [nh,nh,pV,pV];exact Vals.append h (Vals.rep h k)
theorem tu{α:Type}(l:List α):l.eraseIdx (l.length-1)=l.dropLast:=by
 induction l with
 |nil=>rfl
 |cons a r ih=>
  cases r with
  |nil=>rfl
  |cons b r=>
   have e:(a::b::r).length-1=((b::r).length-1)+1:=by
    have h1:(a::b::r).length=r.length+2:=rfl;have h2:(b::r).length=r.length+1:=rfl;omega
   rw [e,List.eraseIdx_cons_succ,ih]
   all_goals rfl
theorem foldl_rep(its:List Value):∀(k:Nat)(acc:List Value),
  List.foldl (λx1 x2=>x1++x2) acc.toArray (List.replicate k its.toArray)=(acc++(List.replicate k its).flatten).toArray
 |0,acc=>by simp
 |k+1,acc=>by
  have e:acc.toArray++its.toArray=(acc++its).toArray:=by simp
  have e2:(acc++its)++(List.replicate k its).flatten=acc++(List.replicate (k+1) its).flatten:=by
   rw [nh,pV,lN]
  rw [←e2,←foldl_rep its k (acc++its),←e,nh,List.foldl_cons]
section
variable {X:Cx} {pins:List (Addr×Obj)} {σ:St} {H:Hp} {s:Shared} {l b:Addr} {xs ys zs:List V}
theorem Inv.zC{its its':List Value}{n:Nat}{f:Array Value→Array Value}{t':Nat}(I:Inv X pins σ H s)(hH:H l=some (.lst xs))
  (e:s.heap.get? l=some {cls:= .type "list",data:= .seq its.toArray n}) (hf:f its.toArray=its'.toArray) (hv:Vals ys its') (hz:ys.length≤sizeLine):
  Inv X pins σ (upd H l (.lst ys)) {s with heap:=s.heap.update l (Obj.mapSeq f),toks:=t'}:=by
 have q:=PySem.IsL.update e f;rw [hf] at q;refine I.write (x:=l) (e:=l) (by rw [hH];exact trivial) (.inl rfl) (λb' u hb hu=>(Heap.get?_update_other s.heap (Obj.mapSeq f) (Ne.symm hb)).trans hu) ⟨_,q⟩ ?_
 exact ⟨hz,its',_,hv,q⟩
theorem Inv.zB{its:List Value}{t':Nat}(I:Inv X pins σ H s)(hv:Vals ys its)(hz:ys.length≤sizeLine):
  Inv X pins σ (upd H s.heap.objs.size (.lst ys)) {s with heap:=s.heap.push {cls:= .type "list",data:= .seq its.toArray},toks:=t'}:=
 I.laid (λ_ _ q=>Heap.get?_push_of_some _ q) (bC _) ⟨hz,its,0,hv,Heap.get?_push_size _ rfl⟩
theorem Inv.fresh(I:Inv X pins σ H s):H s.heap.objs.size=none:=I.hok.fresh (bC _)
theorem Inv.lh(I:Inv X pins σ H s)(hH:H l=some (.lst xs)):xs.length≤sizeLine∧∃(its:List Value)(n:Nat),Vals xs its∧xs.length=its.length∧s.heap.get? l=some {cls:= .type "list",data:= .seq its.toArray n}:=by
 obtain ⟨z,its,n,r,e⟩:=I.hok l _ hH;exact ⟨z,its,n,r,r.length,e⟩
theorem qI{n:Nat}(h:n≤sizeLine):Builtin.List.listTooLong n=false:=by
 unfold Builtin.List.listTooLong;exact decide_eq_false (by omega)
end
section
variable {X:Cx}
def Aa:V→List V→Hp→VK→Prop:=λx vs H Q=>∃l xs y,x= .ref l∧vs= [y]∧H l=some (.lst xs)∧xs.length<sizeLine∧Q .aN (upd H l (.lst (xs++ [y])))
theorem kA:AJ X "list.append" Aa:=by
 intro pins s σ H x vs v us Q I rx rv h;obtain ⟨l,xs,y,rfl,rfl,hH,hz,q⟩:=h;cases rx;obtain ⟨u,rfl,ru⟩:=rv.one;obtain ⟨z,its,n,r,hl,e⟩:=I.lh hH;refine call_meets F.slot_list_append ⟨_,e,rfl⟩ F.entry_list_append (F.args_list_append_2 _ _) (PySem.list_append l its.toArray n u (by rw [dM];omega)) ⟨e,?_⟩
 refine ⟨.aN,_,I.zC (its':=its++ [u]) hH e (by simp) (r.append (.cons ru .nil)) ?_,rfl,q⟩
 rw [cu,lM];omega
def Ab:V→List V→Hp→VK→Prop:=λx vs H Q=>∃l b xs zs,x= .ref l∧vs= [.ref b]∧H l=some (.lst xs)∧H b=some (.lst zs)∧xs.length+zs.length≤sizeLine∧Q .aN (upd H l (.lst (xs++zs)))
theorem vi:AJ X "list.extend" Ab:=by
 intro pins s σ H x vs v us Q I rx rv h;obtain ⟨l,b,xs,zs,rfl,rfl,hH,hB,hz,q⟩:=h;cases rx;obtain ⟨u,rfl,ru⟩:=rv.one;cases ru;obtain ⟨z,its,n,r,hl,e⟩:=I.lh hH;obtain ⟨z2,mT,n2,r2,Na,e2⟩:=I.lh hB;have tH:its.toArray.size+mT.toArray.size≤sizeLine:=by rw [dM,dM];omega
 have uX:¬(!its.toArray.isEmpty&&Builtin.List.listTooLong (its.toArray.size+mT.toArray.size))=true:=by
  rw [qI tH,Bool.and_false];exact b8
 refine call_meets F.slot_list_extend ⟨_,e,rfl⟩ F.entry_list_extend (F.args_list_extend_2 _ _)
  (AutoSeq1.list_extend_list_list_0 l its.toArray n b mT.toArray n2 uX (by rw [dM];omega) (by omega)) ⟨e,e2,?_⟩
 refine ⟨.aN,_,I.zC (its':=its++mT) hH e (by simp) (r.append r2) ?_,rfl,q⟩
 rw [cu];omega
def Kg:V→List V→Hp→VK→Prop:=λx vs H Q=>∃l xs y,x= .ref l∧vs= []∧H l=some (.lst xs)∧xs[xs.length-1]? =some y∧Q y (upd H l (.lst xs.dropLast))
theorem Bq:AJ X "list.pop" Kg:=by
 intro pins s σ H x vs v us Q I rx rv h;obtain ⟨l,xs,y,rfl,rfl,hH,hy,q⟩:=h;cases rx;have Nz:=rv.zero;subst Nz;obtain ⟨z,its,n,r,hl,e⟩:=I.lh hH;obtain ⟨u,hu,ru⟩:=r.get hy
 have Bc:its.toArray[its.toArray.size-1]? =some u:=by
  show its.toArray[its.length-1]? =some u;rw [←pU,←hl];exact hu
 refine call_meets F.slot_list_pop ⟨_,e,rfl⟩ F.entry_list_pop (F.args_list_pop_1 _) (MeetsSeq.list_pop_last l its.toArray n u Bc (by rw [dM];omega)) ⟨e,?_⟩
 refine ⟨y,_,I.zC (its':=its.dropLast) hH e ?_ r.dropLast ?_,ru,q⟩
 ·show its.toArray.eraseIdxIfInBounds (its.toArray.size-1)=its.dropLast.toArray
  rw [dM,List.eraseIdxIfInBounds_toArray,tu]
 ·rw [List.length_dropLast]
  omega
def Kb:R2:=λx y H Q=>∃l b xs zs,x= .ref l∧y= .ref b∧H l=some (.lst xs)∧H b=some (.lst zs)∧xs.length+zs.length≤sizeLine∧∀p,H p=none→Q (.ref p) (upd H p (.lst (xs++zs)))
theorem rU:OpR X (binaryOp .Add) Kb:=by
 intro pins s σ H x y v u Q I rx ry h;obtain ⟨l,b,xs,zs,rfl,rfl,hH,hB,hz,q⟩:=h;cases rx;cases ry;obtain ⟨z,its,n,r,hl,e⟩:=I.lh hH;obtain ⟨z2,mT,n2,r2,Na,e2⟩:=I.lh hB;refine PySem.P.add_list e e2 ?_ (by rw [dM,dM];omega)
 have ea:its.toArray++mT.toArray=(its++mT).toArray:=by simp
 rw [ea];exact ⟨.ref _,_,I.zB (t':=s.toks) (r.append r2) (by rw [cu];omega),rfl,q _ I.fresh⟩
def Kh:R2:=λx y H Q=>∃l k xs,x= .ref l∧y= .int k∧H l=some (.lst xs)∧-(2^63)≤k∧k<2^63∧xs.length*k.toNat≤sizeLine∧
 ∀p,H p=none→Q (.ref p) (upd H p (.lst (List.replicate k.toNat xs).flatten))
theorem len_rep{α:Type}(xs:List α)(k:Nat):(List.replicate k xs).flatten.length=k*xs.length:=by
 induction k with
 |zero=>simp
 |succ k ih=>rw [nh,pV,cu,ih,Nat.succ_mul,Nat.add_comm]
theorem wx:OpR X (binaryOp .Mult) Kh:=by
 intro pins s σ H x y v u Q I rx ry h;obtain ⟨l,k,xs,rfl,rfl,hH,h1,h2,hz,q⟩:=h;cases rx;obtain ⟨t,rfl⟩:=ry;obtain ⟨z,its,n,r,hl,e⟩:=I.lh hH;have hlen:its.toArray.size*k.toNat≤sizeLine:=by rw [dM,←hl];exact hz
 have HQ:¬its.toArray.size*k.toNat>(2^63-1) / 8:=by
  have:(sizeLine:Nat)≤(2^63-1) / 8:=by decide
  omega
 have Ib:¬(!Builtin.List.listFitsIndex k)=true:=by
  rw [fitsIndex_both h1 h2];exact b8
 have uX:¬Builtin.List.listTooLong (its.toArray.size*k.toNat)=true:=by
  rw [qI hlen];exact b8
 have Ih:List.foldl (λx1 x2=>x1++x2) #[] (List.replicate (if its.toArray.isEmpty=true then 0 else k.toNat) its.toArray)=(List.replicate k.toNat its).flatten.toArray:=by
  have f0:∀m:Nat,List.foldl (λx1 x2=>x1++x2) #[] (List.replicate m its.toArray)=(List.replicate m its).flatten.toArray:=λm=>by
   have:=foldl_rep its m []
   rw [qT] at this;exact this
  rw [f0];cases its with
  |nil=>simp
  |cons a r'=>rw [if_neg (by simp)]
 refine wpAny_binaryOp_repeat_ref (T:="list") (U:="int") (by decide) ⟨_,e,rfl⟩ (λs'=>typeIs_int s' k t) noFill_list_mul F.fills_int_mul F.slot_int_rmul repeat_list F.slot_int_index.lookup
  (call_meets F.slot_int_rmul (typeIs_int s k t) F.entry_int_rmul (F.args_int_rmul_2 _ _) (int___rmul___int_list k t l its.toArray n)
   ⟨e,rfl,⟨_,e,rfl⟩,call_meets F.slot_list_mul ⟨_,e,rfl⟩ F.entry_list_mul (F.args_list_mul_2 _ _) (AutoListH.list___mul___list_int_3 l its.toArray n k t Ib HQ uX) ⟨e,?_⟩⟩)
 rw [Ih];exact ⟨.ref _,_,I.zB (t':=s.toks) (r.rep k.toNat) (by rw [len_rep,Nat.mul_comm];exact hz),rfl,q _ I.fresh⟩
end
section
variable {prog:Program} {w:World} {A:Around} {E:Value→Shared→Prop} {s:Shared}
end
section
variable {X:Cx}
end
end L2
namespace FN
open PySem PySem.W PySem.Calls PyProof.Rows
theorem ma{P:Params}{h:Heap}:∀(ns:List Int)(vs:List Value),WellAll P h vs (ns.map WData.int)→IntsAre vs ns:=by
 intro ns
 induction ns with
 |nil=>
  intro vs w;rw [List.map_nil] at w;cases w;exact .nil
 |cons n ns ih=>
  intro vs w;rw [i9] at w;cases w with
  |cons a b=>
   cases a;exact .cons _ _ (ih _ b)
theorem vC{l:OpenLaw}{n:Nat}(hn:l.most=some n){P:Params}{h:Heap}{args:List WData}{vals:List Value}
  (wg:l.row.toRowW.claim.pre args=true) (EX:WellAll P h vals args):
  ∃a vs ns,vals= [Value.ref a]∧args= [WData.list (ns.map WData.int)]∧h.get? a=some {cls:= .type "list",data:= .seq vs.toArray}∧IntsAre vs ns∧ns.length≤n:=by
 have Nw:WShape.hasAll [] args [.list .int]=true:=(pre_splitW wg).1;have hc:l.pre.holds [] {args:=args}=true:=(pre_splitW wg).2;obtain ⟨d,r,rfl,h1,h2⟩:=hasAllW_cons Nw;obtain rfl:=hasAllW_nil h2;obtain ⟨xs,rfl,h3⟩:=hasW_list h1;obtain ⟨ns,rfl⟩:=items_int h3
 have hlen:ns.length≤n:=by
  unfold OpenLaw.pre at hc
  have h4:(WTm.not (.lt (.lit (.int (n:Int))) (.len (.arg 0)))).holds [] {args:= [.list (ns.map .int)]}=true:=by
   have h4:=(holds_andW hc).1;rw [hn] at h4;exact h4
  have h5:=condW_of h4 (w_not (w_lt w_lit (w_len_list (w_arg rfl))));rw [aV] at h5;refine gz λq=>?_;have q':(n:Int)<((ns.length:Nat):Int):=by omega
  first
   | (rw [decide_eq_true q'] at h5;exact absurd h5 (by decide))
   | (simp at h5;omega)
 cases EX with
 |cons w1 w2=>
  cases w2;cases w1 with
  |list ho HK=>exact ⟨_,_,ns,rfl,rfl,ho,ma ns _ HK,hlen⟩
theorem vz(l:OpenLaw)(args:List WData):l.row.toRowW.claim.post args (.bool true) args=true:=
 postW_of (r:=l.row.toRowW) (X:=(true==true))
  (show WShape.has [] (.bool true) .bool=true by first|rfl|decide|simp [WShape.has,WShape.arms,WShape.armsAll])
  (show (WTm.eq .res (.lit (.bool true))).value [] {args:=args,res:=some (.bool true),after:=args}=some (.bool (true==true)) from w_eq_bool (w_res rfl) w_lit) rfl
theorem qZ{l:OpenLaw}{n:Nat}{q:Program}{loose:List Str}{XP:(Str→Option Value)→Heap→Prop}{YP:World→Heap→Prop}{d:DefRec}
  (hn:l.most=some n) (uU:d.params.defaults= [])
  (call:∀(w:World)(s₀ s₁:Shared)(mg mb:Str→Option Value)(fa:Addr)(o:Obj)(pm cd doc:Value)(a:Addr)(vs:List Value)(ns:List Int),
   Ground q loose [] XP w s₀ mg mb s₁.heap→YP w s₁.heap→
   s₁.heap.get? fa=some o→o.data= .func (docDef d.name d.params d.body d.scope pm cd doc)→s₁.heap.CodeRec cd d.name→mg d.name=some (.ref fa)→
   s₁.heap.get? a=some {cls:= .type "list",data:= .seq vs.toArray}→IntsAre vs ns→ns.length≤n→s₁.gens= #[]→
   codeAny (model l.prog w) callerA (.call (.ref fa) ⟨[.ref a],[]⟩) (λr s'=>r= .ok (.ret (.bool true))∧OldK s₁.heap s'.heap∧s'.os=s₁.os∧AllBare s'.gens) s₁):
  WalkO q loose XP YP l.row.toRowW d [] (λf vs=>PySem.call f vs):=by
 intro w s₀ s₁ mg mb G Y fa o pm cd doc dV kV ho hd cA hD uZ hg args vals as wg QW Rm EX Rl;obtain rfl:dV= .none:=Dflts.none hD uU;obtain rfl:kV= .none:=Dflts.noKw hD;obtain ⟨a,vs,ns,rfl,rfl,zf,hints,hlen⟩:=vC hn wg EX;refine enter_call (codeAny_mono (call w s₀ s₁ mg mb fa o pm cd doc a vs ns G Y ho (fd_plain hd) cA uZ zf hints hlen hg) λr s' hq=>?_);obtain ⟨rfl,h2,h3,h4⟩:=hq;exact ⟨.inl ⟨.bool true, .bool true,[],rfl,λ_=>rfl, .bool true,vz l _,λ_=>⟨List.Pairwise.nil,λ_ hm=>(nomatch hm)⟩⟩,h2,h3,h4⟩
section
variable {prog:Program} {w:World} {A:Around} {E:Value→Shared→Prop} {s:Shared} {K:Frag}
end
end FN
namespace L2
open PySem PySem.Spec PyProof.Rows
theorem iS:∀{vs:List Value}{ns:List Int},IntsAre vs ns→Vals (ns.map V.int) vs
 |_,_, .nil=> .nil
 |_,_, .cons n t h=> .cons ⟨t,rfl⟩ (iS h)
def yc(H:Hp):Prop:=∀b,H b=none∨∃o xs,H b=some (.kS o (.lst xs))
theorem xv{P:Program}{w:World}{K:PySem.W.Frag}{mg mb:Str→Option Value}{CX:lQ}{k:Nat}{fa a:Addr}{fd:FuncData}{x:Str}{sp:Sp}{s₁:Shared}{vs:List Value}{ns:List Int}
  (KX:K.In s₁.heap) (u0:s₁.heap.Ns mainGlobals mg) (hb:s₁.heap.Ns builtinsNs mb) (MS:∀x:Str,x≠"__name__"→mb x=bootBuiltins x) (Ig:s₁.heap.NoLimit) (hg:s₁.gens= #[])
  (ha:s₁.heap.get? a=some {cls:= .type "list",data:= .seq vs.toArray}) (hi:IntsAre vs ns) (hl:ns.length≤sizeLine) (hr:bH k callerA)
  (F:∀base:Heap,K.In base→base.Ns mainGlobals mg→FnOk P w K mg base CX k fa fd [x] sp) (EF:∀(s:Shared)(u:Value),BindsTo s fd ⟨[u],[]⟩ [(x,u)])
  (tG:∀H:Hp,yc H→bx K H a (ns.map V.int)→sp [.ref a] H (λv _=>v= .bl true) λ_ _ _=>False)
  (Ez:∀H e s',CX [] H s₁ (λ_ _ _=>False) e s'→False):
  codeAny (model P w) callerA (.call (.ref fa) ⟨[.ref a],[]⟩) (λr s'=>r= .ok (.ret (.bool true))∧OldK s₁.heap s'.heap∧s'.os=s₁.os∧AllBare s'.gens) s₁:=by
 have rv:=iS hi;have Jf:=hi.length
 have core:∀H:Hp,yc H→bx K H a (ns.map V.int)→fI P w H s₁.heap→(∀b,H b≠none→b=a)→(H a≠none→K.lookup a=none)→
   codeAny (model P w) callerA (.call (.ref fa) ⟨[.ref a],[]⟩) (λr s'=>r= .ok (.ret (.bool true))∧OldK s₁.heap s'.heap∧s'.os=s₁.os∧AllBare s'.gens) s₁:=by
  intro H hO hS hok hA hK;have sF:∀{b:Addr}{o:Obj},s₁.heap.get? b=some o→H b=none→(kU s₁.heap H).get? b=some o:=λe n=>xq e n
  have zG:∀{b:Addr}{o:Obj}{es:Array DictEntry}{ep:Nat},s₁.heap.get? b=some o→o.data= .dict es ep→H b=none:=λ {b o es ep} e d=>by
   cases q:H b with
   |none=>rfl
   |some u=>
    have e':b=a:=hA b (by rw [q];simp)
    subst e';rw [ha] at e;cases e;have d':Data.seq vs.toArray _=Data.dict es ep:=d;cases d'
  have Bt:∀{b:Addr}{m:Str→Option Value},s₁.heap.Ns b m→(kU s₁.heap H).Ns b m:=λ {b m} ⟨o,es,ep,e,d,r⟩=>⟨o,es,ep,sF e (zG e d),d,r⟩
  have HF:K.In (kU s₁.heap H):=λb o e=>sF (KX b o e) (by
   cases q:H b with
   |none=>rfl
   |some u=>
    have e':b=a:=hA b (by rw [q];simp)
    subst e';rw [hK (by rw [q];simp)] at e;cases e)
  have hM:Mod K mg (kU s₁.heap H):=⟨HF,Bt u0,⟨mb,Bt hb,MS⟩,let ⟨mc,h1,h2⟩:=Ig;⟨mc,Bt h1,h2⟩⟩;have e0:Env0 P w K mg (kU s₁.heap H) callerA [] s₁ H:=⟨rfl,hM,λb o e=>zJ e,Nat.le_of_eq (uW _ _),trivial,λb hb=>absurd (show b∈([]:List Addr) from hb) (by simp),hok, .of_eq hg⟩
  refine codeAny_mono ((F _ HF (Bt u0)).run callerA [] s₁ H ⟨[.ref a],[]⟩ [.ref a] [.ref a] _ _ hr e0 (EF s₁ (.ref a)) (.cons rfl .nil) (tG H hO hS)) λr s' h=>?_;cases r with
  |error e=>exact (Ez H e s' h).elim
  |ok fl=>
   cases fl with
   |next=>exact False.elim h
   |brk=>exact False.elim h
   |cont=>exact False.elim h
   |ret u=>
    obtain ⟨v,H',os,bare,un,Ik,r',q⟩:=h;have q':v= .bl true:=q;subst q';obtain rfl:u=Value.bool true:=r';refine ⟨rfl,OldK.of_keep λb o e=>?_,os,bare⟩;cases q:H b with
    |none=>exact un.keep b o e q (by intro z;exact absurd (show b∈([]:List Addr) from z) (by simp)) (by simp)
    |some u=>
     rcases hO b with z| ⟨ob,xs,z⟩
     ·rw [q] at z;cases z
     ·have z2:=un.frzs b ob _ z
      obtain ⟨e1,_⟩:=hok b _ z;obtain ⟨e2,_⟩:=Ik b _ z2;rw [e] at e1;cases e1;exact e2
 cases hk:K.lookup a with
 |some o=>
  have e:=KX a o hk;rw [ha] at e;cases e;refine core (λ_=>none) (λ_=> .inl rfl) (.inr ⟨_,vs.toArray,_,hk,rfl,rfl,rfl,by rw [dM,Jf];exact hl,by simpa using rv⟩) (λb u z=>by have z':(none:Option HO)=some u:=z;cases z') (λb z=>absurd rfl z) λz=>absurd rfl z
 |none=>
  refine core (λb=>if b=a then some (.kS {cls:= .type "list",data:= .seq vs.toArray} (.lst (ns.map V.int))) else none) (λb=>?_) (.inl (.inr ⟨{cls:= .type "list",data:= .seq vs.toArray},if_pos rfl⟩)) (λb u z=>?_) (λb z=>?_) λ_=>hk
  ·by_cases hb:b=a
   ·exact .inr ⟨_,_,if_pos hb⟩
   ·exact .inl (if_neg hb)
  ·by_cases hb:b=a
   ·have z':=(if_pos hb).symm.trans z
    cases z';subst hb;exact ⟨ha,by rw [aV];exact hl,vs,_,rv,ha⟩
   ·have z':=(if_neg hb).symm.trans z
    cases z'
  ·by_cases hb:b=a
   ·exact hb
   ·exact absurd (if_neg hb) z
theorem AE{l:PySem.W.OpenLaw}{n k:Nat}{q:Program}{loose:List Str}{XP:(Str→Option Value)→Heap→Prop}{YP:World→Heap→Prop}{d:DefRec}{K:Params→PySem.W.Frag}{CX:World→lQ}{sp:World→Sp}{x:Str}
  (hn:l.most=some n) (A9:n≤sizeLine) (uU:d.params.defaults= []) (hr:bH k callerA)
  (hY:∀(w:World)(h:Heap),YP w h→(K w.params).In h)
  (F:∀(w:World)(mg:Str→Option Value)(fa:Addr)(h:Heap),(K w.params).In h→h.Ns mainGlobals mg→mg d.name=some (.ref fa)→
   ∃fd:FuncData,(∀(s:Shared)(u:Value),BindsTo s fd ⟨[u],[]⟩ [(x,u)])∧
    ∀base:Heap,(K w.params).In base→base.Ns mainGlobals mg→FnOk l.prog w (K w.params) mg base (CX w) k fa fd [x] (sp w))
  (tG:∀(w:World)(H:Hp)(a:Addr)(ns:List Int),ns.length≤n→yc H→bx (K w.params) H a (ns.map V.int)→sp w [.ref a] H (λv _=>v= .bl true) λ_ _ _=>False)
  (Ez:∀(w:World)(H:Hp)(s:Shared)(e:Value)(s':Shared),CX w [] H s (λ_ _ _=>False) e s'→False):
  PySem.W.WalkO q loose XP YP l.row.toRowW d [] (λf vs=>PySem.call f vs):=by
 refine FN.qZ hn uU λw s₀ s₁ mg mb fa o pm cd doc a vs ns G Y ho hd cA uZ zf hints hlen hg=>?_;have KX:=hY w _ Y;obtain ⟨fd,hb,hF⟩:=F w mg fa _ KX G.T.g uZ;exact xv KX G.T.g G.T.b G.T.builtins G.T.nolimit hg zf hints (jG hlen A9) hr hF hb (λH hO hS=>tG w H a ns hlen hO hS) λH e s'=>Ez w H s₁ e s'
def inClass(s:Stmt)(j:Nat):Stmt:=match s with
 | .ClassDef _ _ _ body _ _ _ _ _ _ _=>body.getD j (.Pass ⟨0,0,0,0⟩)
 |_=> .Pass ⟨0,0,0,0⟩
def fY(s:Stmt):Arguments:=match s with
 | .FunctionDef _ a _ _ _ _ _ _ _ _=>a
 |_=>{posonlyargs:= [],args:= [],vararg:=none,kwonlyargs:= [],kw_defaults:= [],kwarg:=none,defaults:= []}
def cY(s:Stmt):List Stmt:=match s with
 | .FunctionDef _ _ b _ _ _ _ _ _ _=>b
 |_=> []
def au(s:Stmt):Scope:=match s with
 | .FunctionDef _ _ _ _ _ _ sc _ _ _=>sc
 |_=>{kind:= .function,names:= [],isGenerator:=false,isCoroutine:=false}
abbrev bS:lQ:=λ_ _ _ _ _ _=>False
abbrev E0:XK:=λ_ _ _=>False
theorem rW{X:Cx}:Passes bS X E0:=λ_ _ _ _ _ _ _ h=>h.elim
structure p7 (K:PySem.W.Frag) (x qual:Str) (st:Stmt) (f:Addr) (fd:FuncData):Prop where
 ex:∃(oc:Value)(od:Option Addr)(kV doc pm:Value)(an:Option Addr)(bc ct:Value)(tU:Array (Option Value)),
  fd=PySem.W.fnOf x qual (fY st) (cY st) (au st) .none kV doc pm an bc ct∧K.lookup f=some ⟨oc,od, .func fd,tU⟩∧PySem.W.codeIn K bc qual=true
 kp:PySem.W.keepIn K (.ref f)=true
section
variable {P:Program} {w:World} {K:PySem.W.Frag} {mg:Str→Option Value} {base:Heap}
theorem p7.ok{x qual:Str}{st:Stmt}{f:Addr}{fd:FuncData}{N ps:List Str}{k:Nat}{sp:Sp}(F:p7 K x qual st f fd)(S:aI N ps (au st))(len:∀vs H Q E,sp vs H Q E→vs.length=ps.length)
  (kn:∀(bc:Value)(A:Around)(outer:List Env)(s:Shared)(H:Hp)(vs:List V)(Q:VK)(E:XK),bH k (A.deeper (envOfC qual (au st) s.heap.objs.size f bc))→sp vs H Q E→
   ∃t,jg (mN bS P w K mg base N qual (au st) f bc A outer s H E).ph (cY st) t∧t {nx:=λ_ H'=>Q .aN H',rt:=Q} (start N vs) H):FnOk P w K mg base bS (k+1) f fd ps sp:=by
 obtain ⟨oc,od,kV,doc,pm,an,bc,ct,tU,rfl,lk,cA⟩:=F.ex;refine Ew lk cA S len λA outer s H vs Q E hr tG=>?_;obtain ⟨t,h,q⟩:=kn bc A outer s H vs Q E hr tG;exact ⟨t,h.ph,q⟩
theorem p7.binds{x qual:Str}{st:Stmt}{f:Addr}{fd:FuncData}{ps:List Str}(F:p7 K x qual st f fd)
  (h:∀(kV doc pm:Value)(an:Option Addr)(bc ct:Value)(us:List Value),us.length=ps.length→bindArgs (PySem.W.fnOf x qual (fY st) (cY st) (au st) .none kV doc pm an bc ct) ⟨us,[]⟩=pure (ps.zip us)):Binds K fd ps []:=by
 obtain ⟨oc,od,kV,doc,pm,an,bc,ct,tU,rfl,lk,cA⟩:=F.ex;exact .all (h kV doc pm an bc ct)
theorem kT{x qual:Str}{st:Stmt}{f:Addr}{oc:Value}{od an:Option Addr}{tU:Array (Option Value)}{kV doc pm bc ct:Value}(l:K.lookup f=some ⟨oc,od, .func (PySem.W.fnOf x qual (fY st) (cY st) (au st) .none kV doc pm an bc ct),tU⟩)
  (c:PySem.W.codeIn K bc qual=true) (k:PySem.W.keepIn K (.ref f)=true):p7 K x qual st f (PySem.W.fnOf x qual (fY st) (cY st) (au st) .none kV doc pm an bc ct):=⟨⟨oc,od,kV,doc,pm,an,bc,ct,tU,rfl,l,c⟩,k⟩
end
theorem bI{n:Nat}(h:n≤1000):n<sizeLine:=Nat.lt_of_le_of_lt h (by decide)
section
variable {X:Cx}
theorem pv(i:Nat){x:Str}{pos:Pos}(hN:X.N[i]? =some x:=by rfl)(hv:iK X.env.scope x:=by first|exact Or.inl rfl|exact Or.inr (Or.inl rfl) |exact Or.inr (Or.inr rfl))(hd:(x==("__debug__":Str))=false:=by decide)
  (cA:(x==("__classdict__":Str))=false:=by decide):PE X (.Name x pos) (Dj i):=r8 hN hv hd cA
end
theorem cD{A B:Prop}(h:B):if false=true then A else B:=by
 rw [if_neg b8];exact h
theorem b6{A B:Prop}(h:A):if true=true then A else B:=by
 rw [if_pos rfl];exact h
def aJ(H H':Hp):Prop:=∀b o,H b=some o→H' b=some o
theorem aJ.refl(H:Hp):aJ H H:=λ_ _ h=>h
theorem aJ.trans{H H1 H2:Hp}(a:aJ H H1)(b:aJ H1 H2):aJ H H2:=λc o h=>b c o (a c o h)
theorem aJ.free{H H':Hp}(e:aJ H H'){l:Addr}(h:H' l=Option.none):H l=Option.none:=by
 cases q:H l with
 |none=>rfl
 |some o=>
  rw [e l o q] at h;cases h
def gJ(env:Env):List (Str×NameKind)→List (Str×Addr)→List (Str×Addr)
 | [],cs=>cs
 | (n,k)::r,cs=>if k==NameKind.free then gJ env r ((n,(env.cells.lookup n).getD 0)::cs) else gJ env r cs
theorem ib{scope:Scope}{env:Env}(h:∀x∈scope.names,x.2= .free→∃c,env.cells.lookup x.1=some c):closureFor scope env=pure (gJ env scope.names []):=by
 simp only [closureFor]
 have go:∀(names:List (Str×NameKind))(cs:List (Str×Addr)),(∀x∈names,x.2= .free→∃c,env.cells.lookup x.1=some c)→
   (forIn names cs λx __s=>if (x.snd==NameKind.free)=true then (do let a ←cellOf env x.fst;pure (ForInStep.yield ((x.fst,a)::__s))) else pure (ForInStep.yield __s))=(pure (gJ env names cs):Sem _):=by
  intro names
  induction names with
  |nil=>intro cs _;rfl
  |cons x r ih=>
   intro cs h;obtain ⟨n,k⟩:=x;rw [List.forIn_cons,gJ];have hr:=λcs=>ih cs λy hy=>h y (fg _ hy);cases hk:k==NameKind.free with
   |false=>
    simp only [hk,wQ,if_false];exact hr cs
   |true=>
    have iq:k= .free:=by simpa using hk
    obtain ⟨c,hc⟩:=h (n,k) eH iq;simp only at hc;simp only [if_true,cellOf,hc];exact hr _
 rw [go _ _ h];rfl
theorem cN{env:Env}:∀(names:List (Str×NameKind))(cs:List (Str×Addr)),(∀x∈names,x.2= .free→∃c,env.cells.lookup x.1=some c)→(∀x c,cs.lookup x=some c→env.cells.lookup x=some c)→
  ∀x c,(gJ env names cs).lookup x=some c→env.cells.lookup x=some c
 | [],cs,_,hc=>hc
 | (n,k)::r,cs,h,hc=>by
  rw [gJ]
  split
  ·rename_i hk
   refine cN r _ (λy hy=>h y (fg _ hy)) λx c e=>?_;obtain ⟨c',nE⟩:=h (n,k) eH (by simpa using hk)
   rw [lO] at e
   split at e
   ·rename_i hx
    have zp:x=n:=by simpa using hx
    subst zp;simp only at nE;rw [nE] at e ⊢;exact e
   ·exact hc x c e
  ·exact cN r cs (λy hy=>h y (fg _ hy)) hc
theorem jI{env:Env}:∀(names:List (Str×NameKind))(cs:List (Str×Addr))(x:Str),((x,NameKind.free)∈names∨∃c,cs.lookup x=some c)→∃c,(gJ env names cs).lookup x=some c
 | [],cs,x,h=>by
  rcases h with h|h
  ·cases h
  ·exact h
 | (n,k)::r,cs,x,h=>by
  rw [gJ]
  split
  ·rename_i hk
   refine jI r _ x ?_
   by_cases e:x=n
   ·subst e;exact .inr ⟨(env.cells.lookup x).getD 0,by simp [lO]⟩
   ·have ne:(x==n)=false:=by simpa using e
    rcases h with h| ⟨c,h⟩
    ·rcases cF.mp h with z|z
     ·cases z;exact absurd rfl e
     ·exact .inl z
    ·exact .inr ⟨c,by rw [lO,ne];exact h⟩
  ·rename_i hk
   refine jI r cs x ?_
   rcases h with h|h
   ·rcases cF.mp h with z|z
    ·cases z;exact absurd rfl hk
    ·exact .inl z
   ·exact .inr h
def j7(src:List (Option Nat))(σ:St):St:=src.map λo=>o.bind λi=>(σ[i]?).bind id
def b4(scope:Scope)(XN:List Str):List (Option Nat)→List Str→Prop
 | [],[]=>True
 |none::r,_::n=>b4 scope XN r n
 |some i::r,x::n=>XN[i]? =some x∧scope.names.lookup x=some .free∧b4 scope XN r n
 |_,_=>False
theorem b4.len{scope:Scope}{XN:List Str}:∀{src:List (Option Nat)}{NC:List Str},b4 scope XN src NC→src.length=NC.length
 | [],[],_=>rfl
 |none::r,_::n,h=>by have:=b4.len (src:=r) (NC:=n) h;simp [this]
 |some i::r,_::n,h=>by have:=b4.len (src:=r) (NC:=n) h.2.2;simp [this]
 | [],_::_,h=>h.elim
 |none::_,[],h=>h.elim
 |some _::_,[],h=>h.elim
theorem b4.at{scope:Scope}{XN:List Str}:∀{src:List (Option Nat)}{NC:List Str}{j i:Nat}{x:Str},b4 scope XN src NC→src[j]? =some (some i)→NC[j]? =some x→XN[i]? =some x∧scope.names.lookup x=some .free
 | [],[],_,_,_,_,h,_=>by simp at h
 |none::r,_::n,0,_,_,_,h,_=>by simp at h
 |none::r,_::n,j+1,i,x,h,h1,h2=>b4.at (src:=r) (NC:=n) (j:=j) h (by simpa using h1) (by simpa using h2)
 |some k::r,y::n,0,i,x,h,h1,h2=>by
  have e1:k=i:=by simpa using h1
  have e2:y=x:=by simpa using h2
  subst e1 e2;exact ⟨h.1,h.2.1⟩
 |some k::r,_::n,j+1,i,x,h,h1,h2=>b4.at (src:=r) (NC:=n) (j:=j) h.2.2 (by simpa using h1) (by simpa using h2)
 | [],_::_,_,_,_,h,_,_=>h.elim
 |none::_,[],_,_,_,h,_,_=>h.elim
 |some _::_,[],_,_,_,h,_,_=>h.elim
structure bE (X:Cx) (scope:Scope):Prop where
 kind:scope.kind= .function
 names:∀x∈scope.names,x.2= .local→scope.names.lookup x.1=some .local
 nocell:∀x∈scope.names,x.2≠ .cell
 free:∀x∈scope.names,x.2= .free→X.env.kindOf x.1=some .cell∨X.env.kindOf x.1=some .free
theorem fq{env:Env}:∀(names:List (Str×NameKind))(x:Str),
  (names.map λ(n,k)=>if (k==NameKind.free&&env.scope.kind== .function&&env.kindOf n==some .cell) then (n,NameKind.cell) else (n,k)).lookup x=
   (names.lookup x).map λk=>if (k==NameKind.free&&env.scope.kind== .function&&env.kindOf x==some .cell) then NameKind.cell else k
 | [],_=>rfl
 | (n,k)::r,x=>by
  have ih:=fq (env:=env) r x;show List.lookup x ((if (k==NameKind.free&&env.scope.kind== .function&&env.kindOf n==some .cell)=true then (n,NameKind.cell) else (n,k))::_)=_;cases hx:x==n with
  |true=>
   have e:x=n:=by simpa using hx
   subst e
   by_cases hc:(k==NameKind.free&&env.scope.kind== .function&&env.kindOf x==some .cell)=true
   ·rw [if_pos hc,lO,lO]
    simp only [hx];show some NameKind.cell=some (if _ then _ else _);rw [if_pos hc]
   ·rw [if_neg hc,lO,lO]
    simp only [hx];show some k=some (if _ then _ else _);rw [if_neg hc]
  |false=>
   by_cases hc:(k==NameKind.free&&env.scope.kind== .function&&env.kindOf n==some .cell)=true
   ·rw [if_pos hc];simp only [lO,hx];exact ih
   ·rw [if_neg hc];simp only [lO,hx];exact ih
theorem mem_lookup{names:List (Str×NameKind)}{x:Str}{k:NameKind}(h:names.lookup x=some k):(x,k)∈names:=PySem.mem_of_lookup h
def dq(X:Cx)(scope:Scope)(NC:List Str)(ex:List Addr)(s:Shared)(H:Hp):Cx:=
 {X with N:=NC,s₀:=s,H₀:=H,env:=compEnvC scope (gJ X.env scope.names []) s.heap.objs.size X.env,outer:=X.stack,stack:=X.stack,ex:=ex,fn:=λ_=>false,pn:= [],xe:=λ_ _=>False}
section
variable {X:Cx} {pins:List (Addr×Obj)} {σ:St} {H:Hp} {s:Shared} {scope:Scope} {NC:List Str} {ex:List Addr} {src:List (Option Nat)}
theorem bE.cells(c:bE X scope)(ok:X.Ok):∀x∈scope.names,x.2= .free→∃c,X.env.cells.lookup x.1=some c:=λx hx e=>ok.has x.1 (c.free x hx e)
theorem bE.E3(c:bE X scope){C:Addr}{x:Str}{k:NameKind}(h:(compEnvC scope (gJ X.env scope.names []) C X.env).kindOf x=some k)(hk:k= .cell∨k= .free):scope.names.lookup x=some .free:=by
 have h':(relabel scope X.env).names.lookup x=some k:=h;unfold relabel at h';rw [fq] at h';cases e:scope.names.lookup x with
 |none=>rw [e] at h';cases h'
 |some k'=>
  have nc:=c.nocell _ (mem_lookup e);rw [e] at h';have h2:(if (k'==NameKind.free&&X.env.scope.kind== .function&&X.env.kindOf x==some .cell) then NameKind.cell else k')=k:=Option.some.inj h'
  by_cases hf:k'= .free
  ·rw [hf]
  ·have hb:(k'==NameKind.free)=false:=by simpa using hf
   rw [hb,Bool.false_and,Bool.false_and,if_neg b8] at h2
   rcases hk with z|z
   ·rw [h2] at nc;exact absurd z nc
   ·rw [h2] at hf;exact absurd z hf
theorem yp(I:Inv X pins σ H s)(c:bE X scope)(hf:∀b∈ex,fB X pins H b)(eX:∀b∈ex,b<s.heap.objs.size):(dq X scope NC ex s H).Ok where
 mod:=I.ok.mod
 kind:=c.kind
 glob:=I.ok.glob
 blt:=I.ok.blt
 above:=bC _
 inj:=λx y d h1 h2=>I.ok.inj x y d (cN _ _ (c.cells I.ok) (λ_ _ z=>by cases z) x d h1) (cN _ _ (c.cells I.ok) (λ_ _ z=>by cases z) y d h2)
 has:=λx hx=>jI _ _ x (.inl (mem_lookup (by rcases hx with h|h<;>exact c.E3 h (by simp))))
 cab:=λ_ _ z=>by cases z
 hd:=I.ok.hd
 frames:=I.ok.frames
 stk:= .inl rfl
 exf:=λb hb=>⟨cf (eX b hb),λx d e=>(hf b hb).2.2.2.2.1 x d (cN _ _ (c.cells I.ok) (λ_ _ z=>by cases z) x d e)⟩
 bs:=I.bs
 bsz:=jG I.ok.bsz I.sz
 noex:=λb o e hb=>by
  rcases (hf b hb).2.2.2.1 with z|z
  ·exact I.ok.noex b o e z
  ·exact absurd (eo (Heap.lt_size e) (jG I.ok.bsz z)) (kc _)
 exfs:=λb hb z=>(cF.mp (I.sq b z)).elim (hf b hb).2.1 (hf b hb).2.2.1
 funs:=I.stack
 frf:=I.ug
theorem wY{h1:Heap}{tk:Nat}{ob:Obj}(I:Inv X pins σ H s)(c:bE X scope)(dD:b4 scope X.N src NC)(hf:∀b∈ex,fB X pins H b)(eX:∀b∈ex,b<s.heap.objs.size)
  (u0:h1.Ns s.heap.objs.size (λ_=>none)) (xu:Heap.SameBut s.heap.objs.size (s.heap.push ob) h1):
  Inv (dq X scope NC ex s H) [] (j7 src σ) H {s with heap:=h1,toks:=tk}:=by
 have old:∀b o,s.heap.get? b=some o→h1.get? b=some o:=λb o e=>xu.extBut b o (cf (Heap.lt_size e)) (Heap.get?_push_of_some _ e);have cl:∀x d,(gJ X.env scope.names []).lookup x=some d→X.env.cells.lookup x=some d:=λx d=>cN _ _ (c.cells I.ok) (λ_ _ z=>by cases z) x d
 have cellK:∀d v,s.heap.IsCell d v→h1.IsCell d v:=λd v ⟨o,ho,hd⟩=>⟨o,old d o ho,hd⟩;refine ⟨yp I c hf eX,rfl,I.bare,Un.kept old,⟨_,u0,λj x v e1 e2 e3=>?_⟩,λx d e=>?_,I.hok.fresh (bC _),λx d e=>I.freeC x d (cl x d e),λp hp=>absurd (show p∈([]:List (Addr×Obj)) from hp) (by simp),I.hok.kept old,?_⟩
 ·have gG:(j7 src σ)[j]? =some (some v):=e2
  unfold j7 at gG;rw [cT] at gG;cases ej:src[j]? with
  |none=>rw [ej] at gG;cases gG
  |some o=>
   rw [ej] at gG;cases o with
   |none=>cases gG
   |some i=>
    have e4:(σ[i]?).bind id=some v:=Option.some.inj gG
    have e5:σ[i]? =some (some v):=by
     cases q:σ[i]? with
     |none=>rw [q] at e4;cases e4
     |some z=>rw [q] at e4;exact congrArg some e4
    obtain ⟨hN,EL⟩:=dD.at ej e1;have hk:=c.free _ (mem_lookup EL) rfl;obtain ⟨m,hn,hl⟩:=I.loc;obtain ⟨u,r,l⟩:=hl i x v hN e5 (hk.elim (λz=> .inr (.inl z)) (λz=> .inr (.inr z)));refine ⟨u,r, .inr ⟨?_,?_⟩⟩
    ·show (relabel scope X.env).names.lookup x=_∨(relabel scope X.env).names.lookup x=_
     unfold relabel;rw [fq,EL]
     by_cases z:(NameKind.free==NameKind.free&&X.env.scope.kind== .function&&X.env.kindOf x==some .cell)=true
     ·left;simp only [Option.map_some,z,if_true]
     ·right;simp only [Option.map_some,z];rfl
    ·obtain ⟨d,hd⟩:=jI (env:=X.env) scope.names [] x (.inl (mem_lookup EL))
     refine ⟨d,hd,?_⟩
     rcases l with ⟨l,_⟩ | ⟨_,d',e,z⟩
     ·exfalso;rcases hk with z|z<;>(rw [l] at z;cases z)
     ·rw [cl x d hd] at e;cases e;exact cellK d _ z
 ·obtain ⟨v,z⟩:=I.cell x d (cl x d e)
  exact ⟨v,cellK d v z⟩
 ·show (j7 src σ).length=NC.length
  unfold j7;rw [aV];exact dD.len
theorem comp_back{H':Hp}{aD:St}{s':Shared}{h2:Heap}{r9:List (Addr×Obj)}(I:Inv X pins σ H s)(hf:∀b∈ex,fB X pins H b)(J:Inv (dq X scope NC ex s H) r9 aD H' s')
  (xu:Heap.SameBut s.heap.objs.size s'.heap h2):Inv X pins σ H' {s' with heap:=h2}:=by
 have up:∀b o,b≠s.heap.objs.size→s'.heap.get? b=some o→h2.get? b=some o:=λb o hb e=>xu.extBut b o hb e;have ne:∀b o,s.heap.get? b=some o→b≠s.heap.objs.size:=λb o e=>cf (Heap.lt_size e);have u:=J.base;refine I.Dw (ch:=ex) (show s'.os=s.os from J.os) ⟨λb o e n hb hx=>up b o (ne b o e) (u.keep b o e n hb hx),λb o e n hb hx=>?_,u.free,λb o e hx=>?_,u.tups,u.frzs,u.tbls⟩ ?_ J.bare λb hb=>?_
 ·obtain ⟨sl,q⟩:=u.slot b o e n hb hx
  exact ⟨sl,up b _ (ne b o e) q⟩
 ·obtain ⟨o',q⟩:=u.there b o e hx
  exact ⟨o',up b o' (ne b o e) q⟩
 ·intro b o e
  have nC:∀b o,H' b=some o→b≠s.heap.objs.size:=λb o e z=>by
   have:=J.free
   rw [z] at e;have e':H' s.heap.objs.size=none:=this;rw [e'] at e;cases e
  refine (J.hok b o e).m8 (λd v hd q=>up d v ?_ q) (λ_ q=>q) λ_ _ q=>q
  rcases hd with z|z
  ·rw [z];exact nC b o e
  ·exact nC d _ z
 ·obtain ⟨_,f1,_,f3,f4,f5⟩:=hf b hb
  exact ⟨f3,f1,f4,f5⟩
end
def p8(X:Cx)(ifs:List Expr)(t:TT):Prop:=
 ∀(pins:List (Addr×Obj))(s:Shared)(σ:St)(H:Hp)(Q:Bool→Hp→Prop),Inv X pins σ H s→t σ H Q→
  wpAny (model X.prog X.w) X.A (forIn ifs true λc r=>if r=true then do let ok ←isTrue c X.env (eval c X.env);pure (ForInStep.yield ok) else pure (ForInStep.yield r)) (TP X pins σ Q) X.xe s
def AA:TT:=λ_ H Q=>Q true H
theorem t7{X:Cx}:p8 X [] AA:=λ_ _ _ H _ I h=>wpAny_tests_nil ⟨H,I,h⟩
theorem z6{X:Cx}{c:Expr}{t:TT}(h:PT X c t):p8 X [c] t:=λpins s σ H Q I q=>wpAny_tests_one (h pins s σ H Q I q)
def Lg(J:It)(g:TG)(tt:TT)(te:TE)(D:Addr)(Q:VK)(σ:St)(H:Hp):Prop:=
 ∃W:Nat→Nat→St→Hp→Prop,(∃m,W 0 m σ H)∧∀i m gE H2,W i m gE H2→
  (J.stop i H2∧Q (.ref D) H2)∨
  (J.go i H2∧∃N:St→Hp→Prop,(∀aD H',N aD H'→∃m',m'<m∧W (i+1) m' aD H')∧∀x H3,J.yld i H2 x H3→g x gE H3 λje H4=>tt je H4 λb H5=>
   if b=true then te je H5 λv H6=>∃ys,H6 D=some (.lst ys)∧ys.length<sizeLine∧N je (upd H6 D (.lst (ys++ [v]))) else N je H5)
def Aw(wi:TI)(g:TG)(tt:TT)(te:TE)(src:List (Option Nat)):TE:=λσ H Q=>wi σ H λJ H1=>∀D,H1 D=none→Lg J g tt te D Q (j7 src σ) (upd H1 D (.lst []))
section
variable {X:Cx} {elt iter tg:Expr} {ifs:List Expr} {scope:Scope} {pos:Pos} {wi:TI} {g:TG} {tt:TT} {te:TE} {src:List (Option Nat)} {NC:List Str}
theorem mL{pins:List (Addr×Obj)}{σ:St}{s2:Shared}{H2:Hp}{it:Addr}{fp:List Addr}{tn:Nat→Heap→Prop}{J:It}{RR:Value→Addr→Result→Shared→Prop}{E:Value→Shared→Prop}{Q:VK}
  (hc:X.calm=true) (c:bE X scope) (dD:b4 scope X.N src NC) (I2:Inv X pins σ H2 s2) (T:Turn X.prog X.w X.K tg J fp it tn) (qh:tn 0 s2.heap) (f2:∀b∈fp,fB X pins H2 b)
  (hg:∀s H,PG (dq X scope NC fp s H) tg g) (ht:∀s H,p8 (dq X scope NC fp s H) ifs tt) (he:∀s H,PE (dq X scope NC fp s H) elt te)
  (hW:∀D,H2 D=none→∃W:Nat→Nat→St→Hp→Prop,(∃m,W 0 m (j7 src σ) (upd H2 D (.lst [])))∧∀i m gE H2,W i m gE H2→
   (J.stop i H2∧Q (.ref D) H2)∨
   (J.go i H2∧∃N:St→Hp→Prop,(∀aD H',N aD H'→∃m',m'<m∧W (i+1) m' aD H')∧∀x H3,J.yld i H2 x H3→g x gE H3 λje H4=>tt je H4 λb H5=>
    if b=true then te je H5 λv H6=>∃ys,H6 D=some (.lst ys)∧ys.length<sizeLine∧N je (upd H6 D (.lst (ys++ [v]))) else N je H5))
  (MP:∀D s3 H3 aD H' s',Inv X pins σ H3 s3→(∀b∈fp,fB X pins H3 b)→Inv (dq X scope NC fp s3 H3) [] aD H' s'→Q (.ref D) H'→RR (.ref D) s3.heap.objs.size (.ok .next) s'):
  wpAny (model X.prog X.w) X.A (newList []) (λacc KI=>wpAny (model X.prog X.w) X.A (newFunctionEnv scope X.env.globals (gJ X.env scope.names []) [] X.env.qual none .none (some X.env)) (λsN Av=>
   codeAny (model X.prog X.w) X.A (.compStart (.ListComp elt [⟨tg,iter,ifs,0⟩] scope pos) 0 (.ref it) acc {sN with scope:=relabel scope X.env}) (RR acc sN.locals) Av) E KI) E s2:=by
 obtain ⟨W,⟨m0,w0⟩,turn⟩:=hW s2.heap.objs.size I2.fresh;have I3:Inv X pins σ (upd H2 s2.heap.objs.size (.lst [])) {s2 with heap:=s2.heap.push {cls:= .type "list",data:= .seq ([]:List Value).toArray}}:=I2.zB (its:= []) (t':=s2.toks) .nil (gB _)
 have Pk:∀b∈fp,b<s2.heap.objs.size:=λb hb=>by
  obtain ⟨o,e,_⟩:=T.obj _ _ qh b hb;exact Heap.lt_size e
 have f3:∀b∈fp,fB X pins (upd H2 s2.heap.objs.size (.lst [])) b:=λb hb=>⟨by rw [ay (cf (Pk b hb))];exact (f2 b hb).1,(f2 b hb).2⟩
 refine wpAny_newObj_type ?_
 suffices key:∀s3:Shared,Inv X pins σ (upd H2 s2.heap.objs.size (.lst [])) s3→(∀b o,s2.heap.get? b=some o→s3.heap.get? b=some o)→
   wpAny (model X.prog X.w) X.A (newFunctionEnv scope X.env.globals (gJ X.env scope.names []) [] X.env.qual none .none (some X.env)) (λsN Av=>
    codeAny (model X.prog X.w) X.A (.compStart (.ListComp elt [⟨tg,iter,ifs,0⟩] scope pos) 0 (.ref it) (.ref s2.heap.objs.size) {sN with scope:=relabel scope X.env}) (RR (.ref s2.heap.objs.size) sN.locals) Av) E s3 from
  key _ I3 λb o e=>Heap.get?_push_of_some _ e
 intro s3 I3 QM;have As:tn 0 s3.heap:=T.keep _ _ _ qh λb _ o e=>QM b o e
 have E5:∀b∈fp,b<s3.heap.objs.size:=λb hb=>by
  obtain ⟨o,e,_⟩:=T.obj _ _ As b hb;exact Heap.lt_size e
 generalize Rf:upd H2 s2.heap.objs.size (.lst [])=H3 at I3 f3 w0;refine wpAny_newFunctionEnv c.nocell (by intro y hy;simp at hy) (λh1 u0 xu=>?_) c.kind
 have I4:=wY (src:=src) (NC:=NC) (ex:=fp) (tk:=s3.toks+([]:List (Str×Value)).length) I3 c dD f3 E5 u0 xu;have KG:tn 0 h1:=T.keep _ _ _ As λb hb o e=>xu.extBut b o (cf (E5 b hb)) (Heap.get?_push_of_some _ e);generalize hX:dq X scope NC fp s3 H3=XC at I4
 have stat:∀{H':Hp},(∀b∈fp,H' b=none)→∀b∈fp,fB XC [] H' b:=λ {H'} hn b hb=>by
  subst hX;refine ⟨hn b hb,cf (E5 b hb),λz=>?_, .inl hb,λx d e=>?_,λp hp=>absurd (show p∈([]:List (Addr×Obj)) from hp) (by simp)⟩
  ·exact (I4.ok.exfs b hb) z
  ·exact (I4.ok.exf b hb).2 x d e
 have loop:codeAny (model X.prog X.w) X.A (.compLoop (.ListComp elt [⟨tg,iter,ifs,0⟩] scope pos) 0 (.ref it) (.ref s2.heap.objs.size) XC.env) (RR (.ref s2.heap.objs.size) s3.heap.objs.size)
   {s3 with heap:=h1,toks:=s3.toks+([]:List (Str×Value)).length}:=by
  refine codeAny_loop rfl (λn s'=>∃i aD H',Inv XC [] aD H' s'∧tn i s'.heap∧(∀b∈fp,H' b=none)∧W i n aD H') (λn s' hI=>?_) m0 ⟨0,_,_,I4,KG,λb hb=>(f3 b hb).1,w0⟩;obtain ⟨i,aD,H',I5,xW,A5,w5⟩:=hI;show wpAny _ X.A ((compTurn (.ListComp elt [⟨tg,iter,ifs,0⟩] scope pos) 0 (.ref it) (.ref s2.heap.objs.size) XC.env).onRaise (λx=>do noteFrame x XC.env;theTreesLotGoes x)) _ _ s'
  refine wpAny_noted ?_;rw [compTurn_list]
  have ph:∀{α:Type}{t:Sem α}{Q:α→Shared→Prop}{E:Value→Shared→Prop}{s:Shared},wpAny (model XC.prog XC.w) XC.A t Q XC.xe s→wpAny (model X.prog X.w) X.A t Q E s:=λ {α t Q E s} h=>by
   subst hX;exact wpAny_mono h (λ_ _ q=>q) λ_ _ f=>f.elim
  have HP:XC.calm=true:=by subst hX;exact hc
  have eP:XC.prog=X.prog:=by subst hX;rfl
  have ew:XC.w=X.w:=by subst hX;rfl
  have eK:XC.K=X.K:=by subst hX;rfl
  have eA:XC.A=X.A:=by subst hX;rfl
  have M3:PG XC tg g:=by subst hX;exact hg _ _
  have Ny:p8 XC ifs tt:=by subst hX;exact ht _ _
  have MY:PE XC elt te:=by subst hX;exact he _ _
  refine wpAny_bind (wpAny_standAt (wpAny_bind ?_))
  rcases turn i n aD H' w5 with ⟨stop,qn⟩ | ⟨go,N,hN,step⟩
  ·have hd:=T.done XC eP ew eK HP i [] s' aD H' (notedBy (model X.prog X.w) X.A XC.env λe s'=>RR (.ref s2.heap.objs.size) s3.heap.objs.size (.error e) s') I5 (stat A5) xW stop
   rw [eA] at hd;refine thn hd λr s6 ⟨hr,I6⟩=>?_;subst hr;refine wpAny_pure ?_;subst hX;exact MP _ s3 H3 aD H' s6 I3 f3 I6 qn
  ·have hd:=T.item XC eP ew eK HP i [] s' aD H' (notedBy (model X.prog X.w) X.A XC.env λe s'=>RR (.ref s2.heap.objs.size) s3.heap.objs.size (.error e) s') I5 (stat A5) xW go
   rw [eA] at hd;refine thn hd λr s6 ⟨u,hr,h6⟩=>?_;subst hr;refine wpAny_bind (thn h6 λ_ s7 ⟨x,H7,I7,r7,y7,Fv,MH⟩=>?_);have Lf:=I7.pinned (stat MH) (T.obj _ _ Fv)
   have again:∀{qk:St}{H8:Hp}{s8:Shared},Inv XC ([]++lz fp s7.heap) qk H8 s8→N qk H8→∃m,m<n∧∃i aD H',Inv XC [] aD H' s8∧tn i s8.heap∧(∀b∈fp,H' b=none)∧W i m aD H':=λ {qk H8 s8} I8 n8=>by
    obtain ⟨m',hm,w8⟩:=hN qk H8 n8;refine ⟨m',hm,i+1,qk,H8,I8.jV,T.keep _ _ _ Fv λb hb o e=>(I8.pin (b,o) (dg _ (dg _ (gP hb e)))).1,λb hb=>?_,w8⟩;obtain ⟨o,e,d⟩:=T.obj _ _ Fv b hb;exact (I8.pin (b,o) (dg _ (dg _ (gP hb e)))).2.1
   refine wpAny_bind (ph (thn (M3 _ s7 aD H7 x u _ Lf r7 (step x H7 y7)) λ_ s8 ⟨qk,H8,I8,q8⟩=>?_));refine wpAny_bind (ph (thn (Ny _ s8 qk H8 _ I8 q8) λb s9 ⟨H9,I9,q9⟩=>?_));cases b with
   |false=>
    rw [if_neg b8] at q9;exact wpAny_pure ⟨by subst hX;rfl,again I9 q9⟩
   |true=>
    rw [if_pos rfl] at q9;refine wpAny_bind (wpAny_bind (ph (thn (MY _ s9 qk H9 _ I9 q9) λy Qx ⟨v,Lc,Ld,Qu,ys,hD,hz,Qs⟩=>?_)));refine wpAny_bind (ph (thn (kA _ Qx qk Lc (.ref s2.heap.objs.size) [v] _ [y] (λ_ H'=>N qk H') Ld rfl (.cons Qu .nil) ⟨_,ys,v,rfl,rfl,hD,hz,Qs⟩) λ_ Rx ⟨_,Q3,Le,_,Qt⟩=>?_));exact wpAny_pure (wpAny_pure ⟨by subst hX;rfl,again Le Qt⟩)
 subst hX;exact codeAny_compStart_list loop (T.self _ 0 _ _ _ KG loop)
theorem zU(hc:X.calm=true)(c:bE X scope)(dD:b4 scope X.N src NC)(hi:PI X tg iter wi)
  (hg:∀ex s H,PG (dq X scope NC ex s H) tg g) (ht:∀ex s H,p8 (dq X scope NC ex s H) ifs tt) (he:∀ex s H,PE (dq X scope NC ex s H) elt te)
  (hs:∀x,foldedSetIterable iter X.env x=pure x:=by intro _;rfl):PE X (.ListComp elt [⟨tg,iter,ifs,0⟩] scope pos) (Aw wi g tt te src):=by
 intro pins s σ H Q I h;rw [eval_ListComp];refine wpAny_comprehension_free (use:=none) rfl hs (ib (c.cells I.ok)) c.kind c.names (thn (hi pins s σ H _ I h) λv s1 h1=>thn h1 λBe s2 h2=>?_);obtain ⟨it,fp,tn,J,H2,rfl,I2,T,qh,f2,hW⟩:=h2;refine mL (RR:=λacc C=>compPost (model X.prog X.w) X.A X.xe none (EP X pins σ Q) acc C) (Q:=Q) hc c dD I2 T qh f2 (hg fp) (ht fp) (he fp) hW ?_;intro D s3 H3 aD H' s' I3 f3 J' q;obtain ⟨m,hn,_⟩:=J'.loc;exact ⟨m,hn,λh' sb=>⟨.ref D,H',comp_back I3 f3 J' sb,rfl,q⟩⟩
def B8(wi:TI)(g:TG)(tt:TT)(te:TE)(src:List (Option Nat))(i:Nat):TS:=λD σ H=>Aw wi g tt te src σ H λv H'=>D.nx (σ.set i (some v)) H'
theorem jS{i:Nat}{x:Str}{px gQ:Pos}(hc:X.calm=true)(hN:X.N.Nodup)(qd:X.N[i]? =some x)(hx:Loc X.env.scope x)(c:bE X scope)(dD:b4 scope X.N src NC)(hi:PI X tg iter wi)
  (hg:∀ex s H,PG (dq X scope NC ex s H) tg g) (ht:∀ex s H,p8 (dq X scope NC ex s H) ifs tt) (he:∀ex s H,PE (dq X scope NC ex s H) elt te)
  (jq:swapsWith (.ListComp elt [⟨tg,iter,ifs,0⟩] scope pos) (some (.Name x px)) gQ.line X.env=pure true)
  (hf:X.fn x=true∨X.env.scope.names.lookup x=some .local:=by first|exact .inl rfl|exact .inr rfl|assumption)
  (hs:∀x,foldedSetIterable iter X.env x=pure x:=by intro _;rfl):PS X (.Assign [.Name x px] (.ListComp elt [⟨tg,iter,ifs,0⟩] scope pos) gQ) (B8 wi g tt te src i):=by
 intro pins s σ H D I h;rw [exec_Assign_Name_used _ _ _ _ jq];refine wpAny_bind (wpAny_standAt (wpAny_bind ?_));show wpAny _ X.A (do let _ ←comprehension (.ListComp elt [⟨tg,iter,ifs,0⟩] scope pos) scope X.env _ (newList []) false (eval iter X.env) (some (assign (.Name x px) X.env))) _ _ s
 refine wpAny_bind (wpAny_mono (wpAny_comprehension_free (use:=some (assign (.Name x px) X.env)) (Q:=λ_ s'=>SP X pins D .next s') rfl hs (ib (c.cells I.ok)) c.kind c.names
  (thn (hi pins s σ H _ I h) λv s1 h1=>thn h1 λBe s2 h2=>?_)) (λ_ s' hq=>wpAny_pure (wpAny_pure hq)) λ_ _ e=>e)
 obtain ⟨it,fp,tn,J,H2,rfl,I2,T,qh,f2,hW⟩:=h2;refine mL (RR:=λacc C=>compPost (model X.prog X.w) X.A X.xe (some (assign (.Name x px) X.env)) (λ_ s'=>SP X pins D .next s') acc C) (Q:=λv H'=>D.nx (σ.set i (some v)) H') hc c dD I2 T qh f2 (hg fp) (ht fp) (he fp) hW ?_;intro a s3 H3 aD H' s' I3 f3 J' q;obtain ⟨m,hn,_⟩:=J'.loc;have IX:Inv X pins σ H' s':=comp_back I3 f3 J' (.refl ..);show wpAny _ X.A (assign (.Name x px) X.env (.ref a)) _ _ _;have nL:s3.heap.objs.size≠X.env.locals:=Nat.ne_of_gt I3.lt
 have nc:∀y d,X.env.cells.lookup y=some d→d≠s3.heap.objs.size:=λy d e z=>by
  obtain ⟨v,hv⟩:=I3.cell y d e
  have:=hv.lt
  rw [z] at this;exact absurd this (kc _)
 have np:∀p∈X.pn++pins,p.1≠s3.heap.objs.size:=λp hp z=>by
  have:=Heap.lt_size (I3.pin p hp).1
  rw [z] at this;exact absurd this (kc _)
 obtain ⟨oC,es,ep,Nm,A7,rC⟩:=id hn;have HD:H' s3.heap.objs.size=none:=J'.free
 have IP:Inv X ((s3.heap.objs.size,oC)::pins) σ H' s':=IX.lA λp hp=>by
  rcases cF.mp hp with z|z
  ·rw [z]
   exact ⟨Nm,HD,nL,I3.C5 (bC _),λv w=>by rw [A7] at w;cases w⟩
  ·exact IX.pin p (dg _ z)
 refine wpAny_assign_Name (mF (x:=x) IP hN qd hx (v:= .ref a) rfl (λs5 I5=>?_) hf);have MN:=(I5.pin (s3.heap.objs.size,oC) (dg _ eH)).1;refine ⟨m,⟨oC,es,ep,MN,A7,rC⟩,λh6 sb=>?_⟩;have Dl:Inv X pins (σ.set i (some (.ref a))) H' s5:=I5.lA λp hp=>I5.pin p (dg _ (fg _ hp));exact ⟨_,H',Dl.turned (t':=s5.toks) (it:=s3.heap.objs.size) (λb o hb e=>sb.extBut b o hb e) HD nL (.inr I3.sz) nc np,q⟩
end
section
variable {X:Cx} {pins:List (Addr×Obj)} {σ:St} {H:Hp} {s:Shared} {h':Heap} {fp:List Addr}
theorem Inv.ui{t':Nat}(I:Inv X pins σ H s)(hf:∀b∈fp,fB X pins H b)(k:∀b o,b∉fp→s.heap.get? b=some o→h'.get? b=some o):Inv X pins σ H {s with heap:=h',toks:=t'}:=by
 refine I.step (g':=s.gens) (d':=s.drawn) (ch:=fp) (λb hb=>?_) (λb o _ _ hc e _=>k b o hc e) (λb o _ _ hc e _=>⟨o.slots,k b o hc e⟩) (λ_ _ _ _ n=>n)
  (λb o hc e=>⟨o,k b o hc e⟩) (λ_ _ e=>e) (λ_ _ _ e=>e) (λb ps e=>⟨#[],by rw [e];simp⟩) (λm hm=>?_) (λb u e=>?_) I.bare
 ·obtain ⟨_,f1,_,f3,f4,f5⟩:=hf b hb
  exact ⟨f3,f1,f4,f5⟩
 ·obtain ⟨o,es,ep,ho,r⟩:=hm
  exact ⟨o,es,ep,k _ o (λz=>(hf _ z).2.1 rfl) ho,r⟩
 ·have nf:∀b u,H b=some u→b∉fp:=λb u e z=>by rw [(hf b z).1] at e;cases e
  refine (I.hok b u e).m8 (λc v hc q=>k c v ?_ q) (λ_ q=>q) λ_ _ q=>q
  rcases hc with z|z
  ·rw [z];exact nf b u e
  ·exact nf c _ z
theorem Inv.AB{t':Nat}{t:Addr}{o:HO}(I:Inv X pins σ H s)(hf:∀b∈fp,fB X pins H b)(k:∀b o,b∉fp→s.heap.get? b=some o→h'.get? b=some o)(ht:s.heap.objs.size≤t)
  (new:bL X.prog X.w (upd H t o) h' t o):Inv X pins σ (upd H t o) {s with heap:=h',toks:=t'}:=by
 have nt:H t=none:=I.hok.fresh ht;have up:∀b u,H b=some u→upd H t o b=some u:=λb u e=>by rw [ay (aM e nt)];exact e
 refine I.step (g':=s.gens) (d':=s.drawn) (ch:=fp) (λb hb=>?_) (λb o _ _ hc e _=>k b o hc e) (λb o _ _ hc e _=>⟨o.slots,k b o hc e⟩) (λb o _ e n=>?_)
  (λb o hc e=>⟨o,k b o hc e⟩) (λb xs e=>up b _ e) (λb _ _ e=>up b _ e) (λb ps e=>⟨#[],by rw [up b _ e];simp⟩) (λm hm=>?_) (λb u e=>?_) I.bare
 ·obtain ⟨_,f1,_,f3,f4,f5⟩:=hf b hb
  exact ⟨f3,f1,f4,f5⟩
 ·rw [ay (cf (eo (Heap.lt_size e) ht))];exact n
 ·obtain ⟨o,es,ep,ho,r⟩:=hm
  exact ⟨o,es,ep,k _ o (λz=>(hf _ z).2.1 rfl) ho,r⟩
 ·by_cases hb:b=t
  ·subst hb
   rw [aw] at e;cases e;exact new
  ·rw [ay hb] at e
   have nf:∀b u,H b=some u→b∉fp:=λb u e z=>by rw [(hf b z).1] at e;cases e
   refine (I.hok b u e).m8 (λc v hc q=>k c v ?_ q) (λb' q=>up b' _ q) λb' _ q=>up b' _ q
   rcases hc with z|z
   ·rw [z];exact nf b u e
   ·exact nf c _ z
end
def Dm(K:PySem.W.Frag)(a:Addr):It:=
 ⟨λi H=>∃xs x,bx K H a xs∧xs[i]? =some x,λi H y H'=>∃t x,y= .ref t∧H t=none∧H'=upd H t (.tup [.int i,x])∧∀xs,bx K H a xs→xs[i]? =some x,λi H=>∃xs,bx K H a xs∧xs.length≤i⟩
theorem tJ{h:Heap}{t:Addr}{u v:Value}(e:h.get? t=some {cls:= .type "tuple",data:= .seq #[u,v]}):IsTup h t [u,v].toArray:=⟨_,e,rfl,_,rfl⟩
theorem vP{P:Program}{w:World}{K:PySem.W.Frag}{es:List Expr}{k1}{tp:Pos}(a e it:Addr)(ne:e≠it):
  Turn P w K (.Tuple es k1 tp) (Dm K a) [e,it] e (λi h=>(∃old,IsEnum h e it i old)∧h.IsListIter it a i) where
 mem:=by simp
 obj:=λi h st b hb=>by
  obtain ⟨⟨old,he⟩,o,e2,c,d⟩:=st
  rcases cF.mp hb with z|z
  ·subst z
   exact ⟨_,he,λv w=>by cases w⟩
  ·have z':b=it:=by simpa using z
   subst z';exact ⟨o,e2,λv z=>by rw [d] at z;cases z⟩
 keep:=λi h h' st k=>by
  obtain ⟨⟨old,he⟩,qh⟩:=st;exact ⟨⟨old,k e (by simp) _ he⟩,qh.at λo q=>k it (by simp) o q⟩
 item:=by
  intro X hP hw hK hc i pins s σ H E I hf st hg;subst hP hw hK;obtain ⟨xs,x,hq,hx⟩:=hg;obtain ⟨its,rv,p,hz⟩:=I.list hq;obtain ⟨u,hu,ru⟩:=rv.get hx;obtain ⟨⟨old,he⟩,hit⟩:=st;refine wpAny_pyNext_enum_item he hit p.isList (x:=u) (by simpa using hu) ne λh' y6 zb Nx QY kk=>?_
  have k2:∀b o,b∉ [e,it]→s.heap.get? b=some o→h'.get? b=some o:=λb o hb q=>kk b o (λz=>hb (by simp [z])) (λz=>hb (by simp [z])) q
  have I1:Inv X pins σ (upd H s.heap.objs.size (.tup [.int i,x])) {s with heap:=h',toks:=s.toks+1}:=
   I.AB hf k2 (bC _) ⟨by show 2≤sizeLine;decide,[.int i s.toks,u], .cons ⟨_,rfl⟩ (.cons ru .nil),tJ Nx⟩
  refine ⟨_,rfl,wpAny_letOwnedTupleGo_enum y6 λh2 MX sb=>?_⟩
  have lt:∀b∈ [e,it],b<s.heap.objs.size:=λb hb=>by
   rcases cF.mp hb with z|z
   ·rw [z];exact Heap.lt_size he
   ·obtain ⟨o,e2,_⟩:=hit
    have z':b=it:=by simpa using z
    rw [z'];exact Heap.lt_size e2
  have Ia:∀b∈ [e,it],fB X pins (upd H s.heap.objs.size (.tup [.int i,x])) b:=λb hb=>⟨by rw [ay (cf (lt b hb))];exact (hf b hb).1,(hf b hb).2⟩
  refine ⟨.ref s.heap.objs.size,_,I1.ui (t':=s.toks+1) Ia (λb o hb q=>sb.extBut b o (λz=>hb (by simp [z])) q),rfl,⟨_,x,rfl,I.hok.fresh (bC _),rfl,λys hy=>by rw [I.mi hy hq];exact hx⟩,⟨⟨u,?_⟩,zb.extBut sb.extBut (Ne.symm ne)⟩,λb hb=>(Ia b hb).1⟩
  have z:((i+1:Nat):Int)=(i:Int)+1:=by omega
  rw [z];exact MX
 done:=by
  intro X hP hw hK hc i pins s σ H E I hf st hg;subst hP hw hK;obtain ⟨xs,hq,hx⟩:=hg;obtain ⟨its,rv,p,hz⟩:=I.list hq;have hl:=rv.length;obtain ⟨⟨old,he⟩,hit⟩:=st;exact wpAny_pyNext_enum_end (I.ok.hd hc) he hit p.isList (by simp;omega) λh' eb=>⟨rfl,I.ui (t':=s.toks) hf λb o hb q=>eb b o (λz=>hb (by simp [z])) q⟩
 self:=λ_ _ _ _ _ st h=>by
  obtain ⟨⟨old,he⟩,_⟩:=st;exact wpAny_pyIter_enum he h
section
variable {X:Cx}
def EZ(K:PySem.W.Frag)(ta:TA):TI:=λσ H R=>ta σ H λvs H1=>∃a,vs= [.ref a]∧(∃xs,H1 a=some (.lst xs))∧R (Dm K a) H1
theorem zY{a:Expr}{ta:TA}{p pos:Pos}{es:List Expr}{k1}{tp:Pos}(hg:Gl X "enumerate")(hm:X.mg "enumerate"=none)(ha:PA X [a] ta)(hs:starEach [a] X.env= [(false,eval a X.env)]:=by rfl):
  PI X (.Tuple es k1 tp) (.Call (.Name "enumerate" p) [a] [] pos) (EZ X.K ta):=by
 intro pins s σ H R I h;refine Call_ (iN I hg hm boot_enumerate (PyProof.Rows.callWith_type1 (thn (ha pos pins s σ H _ I h) λus s1 ⟨vs,H1,I1,r1,q1⟩=>?_) hs rfl));obtain ⟨l,e,⟨xs,hl⟩,q⟩:=q1;subst e;obtain ⟨u,rfl,ru⟩:=r1.one;cases ru;obtain ⟨z,its,n,rv,hlen,e⟩:=I1.lh hl;refine call_enumerate_1 e λh' he hit tH kk=>?_;refine wpAny_pyIter_enum he ?_;have EU:s1.heap.objs.size+1≠s1.heap.objs.size:=Nat.succ_ne_self _;refine ⟨s1.heap.objs.size+1,[s1.heap.objs.size+1,s1.heap.objs.size],_,_,H1,rfl,I1.kept (t':=s1.toks) kk,vP l _ _ EU,⟨⟨_,he⟩,hit⟩,λb hb=>?_,q⟩
 have jb:s1.heap.objs.size≤b:=by
  rcases cF.mp hb with z|z
  ·rw [z];exact Nat.le_succ _
  ·have z':b=s1.heap.objs.size:=by simpa using z
   rw [z'];exact bC _
 exact I1.wc jb (I1.hok.fresh jb)
end
end L2
namespace Wb
abbrev W:=List (List Nat)
def row(w:W)(p:Nat):List Nat:=w.getD p []
inductive Reach (w:W):Nat→Nat→Prop
 |refl (p):Reach w p p
 |step {p q r}:Reach w p q→r∈row w q→Reach w p r
structure Good (w:W):Prop where
 rng:∀p q,q∈row w p→q<w.length
 irr:∀p,p∉row w p
 nod:∀p,(row w p).Nodup
 sym:∀p q,q∈row w p→p∈row w q
 con:∀p,p<w.length→Reach w 0 p
theorem bR{w:W}{p q:Nat}(h:q∈row w p):p<w.length:=by
 apply Classical.byContradiction;intro hn;unfold row at h;rw [cM,gT (by omega)] at h
 simp at h
theorem Af{w:W}{p:Nat}(h:p<w.length):w[p]? =some (row w p):=by
 unfold row;rw [cM,eG h];rfl
theorem BZ{w:W}{p:Nat}{r:List Nat}(h:w[p]? =some r):row w p=r:=by
 unfold row;rw [cM,h];rfl
theorem Ag{w:W}{p:Nat}(h:w.length≤p):row w p= []:=by
 unfold row;rw [cM,gT h];rfl
theorem Reach.trans{w:W}{p q r:Nat}(h:Reach w p q)(h':Reach w q r):Reach w p r:=by
 induction h' with
 |refl=>exact h
 |step _ hr ih=>exact .step ih hr
theorem Reach.symm{w:W}(hs:∀p q,q∈row w p→p∈row w q){p q:Nat}(h:Reach w p q):Reach w q p:=by
 induction h with
 |refl=>exact .refl _
 |step _ hr ih=>exact (Reach.step (.refl _) (hs _ _ hr)).trans ih
def ins{α:Type}(xs:List α)(i:Nat)(x:α):List α:=xs.take i++x::xs.drop i
theorem lZ{α:Type}(xs:List α)(i:Nat)(x:α):(ins xs i x).Perm (x::xs):=by
 unfold ins;have h:= @List.perm_middle _ x (xs.take i) (xs.drop i);rw [wO] at h;exact h
theorem tQ{α:Type}{xs:List α}{i:Nat}{x a:α}:a∈ins xs i x↔a=x∨a∈xs:=by
 rw [(lZ xs i x).mem_iff,cF]
theorem pd{α:Type}{xs:List α}{i:Nat}{x:α}(h:xs.Nodup)(hx:x∉xs):(ins xs i x).Nodup:=by
 rw [(lZ xs i x).nodup_iff,jF];exact ⟨hx,h⟩
theorem oO{α:Type}(xs:List α)(i:Nat)(x:α):(ins xs i x).length=xs.length+1:=by
 rw [(lZ xs i x).length_eq];rfl
theorem t9{w:W}{p x:Nat}{r:List Nat}(h:p<w.length):row (w.set p r) x=if p=x then r else row w x:=by
 unfold row;rw [cM,ni]
 by_cases e:p=x
 ·rw [if_pos e,if_pos e,if_pos h];rfl
 ·rw [if_neg e,if_neg e,cM]
theorem xm{w w':W}{ord:Nat→Nat}(g:Good w)(hl:w'.length=w.length)(into:∀p,p<w.length→ord p<w.length)
  (inj:∀p q,p<w.length→q<w.length→ord p=ord q→p=q) (xY:∀y,y<w.length→∃p,p<w.length∧ord p=y)
  (C0:∀p,p<w.length→(row w' (ord p)).Perm ((row w p).map ord)):Good w':=by
 have mem:∀p q,p<w.length→(q∈row w' (ord p)↔∃a,a∈row w p∧ord a=q):=λp q hp=>by
  rw [(C0 p hp).mem_iff,dX]
 have reach:∀{p q},Reach w p q→Reach w' (ord p) (ord q):=λ {p q} h=>by
  induction h with
  |refl=>exact .refl _
  |step _ hr ih=>exact .step ih ((mem _ _ (bR hr)).mpr ⟨_,hr,rfl⟩)
 refine ⟨λy q hy=>?_,λy hy=>?_,λy=>?_,λy q hy=>?_,λy hy=>?_⟩
 ·obtain ⟨p,hp,rfl⟩:=xY y (by have:=bR hy;omega)
  obtain ⟨a,ha,rfl⟩:=(mem p q hp).mp hy;rw [hl];exact into a (g.rng _ _ ha)
 ·obtain ⟨p,hp,rfl⟩:=xY y (by have:=bR hy;omega)
  obtain ⟨a,ha,e⟩:=(mem p _ hp).mp hy
  have:=inj a p (g.rng _ _ ha) hp e
  subst this;exact g.irr _ ha
 ·by_cases hy:y<w.length
  ·obtain ⟨p,hp,rfl⟩:=xY y hy
   rw [(C0 p hp).nodup_iff];unfold List.Nodup;rw [nj];refine List.Pairwise.imp_of_mem ?_ (g.nod p);intro a b ha hb ne e;exact ne (inj a b (g.rng _ _ ha) (g.rng _ _ hb) e)
  ·rw [Ag (by omega)];exact fH
 ·obtain ⟨p,hp,rfl⟩:=xY y (by have:=bR hy;omega)
  obtain ⟨a,ha,rfl⟩:=(mem p q hp).mp hy;exact (mem a _ (g.rng _ _ ha)).mpr ⟨p,g.sym _ _ ha,rfl⟩
 ·rw [hl] at hy
  obtain ⟨p,hp,rfl⟩:=xY y hy;obtain ⟨z,hz,e0⟩:=xY 0 (by omega)
  have h1:=reach (((g.con z hz).symm g.sym).trans (g.con p hp));rw [e0] at h1;exact h1
def iR(l:List Nat)(x:Nat):Nat:=l.getD ((l.idxOf x+1)%l.length) 0
def vo(w:W)(d:Nat×Nat):Nat×Nat:=(d.2,iR (row w d.2) d.1)
def cQ(w:W)(d:Nat×Nat):Prop:=d.2∈row w d.1
theorem kF{l:List Nat}{x:Nat}(h:x∈l):l[(l.idxOf x+1)%l.length]? =some (iR l x):=by
 have hp:0<l.length:=uu h;unfold iR;rw [cM,eG (nz _ hp)];rfl
theorem vL{l:List Nat}{x:Nat}(h:x∈l):iR l x∈l:=ee (kF h)
theorem zD{a b n:Nat}(ha:a<n)(hb:b<n)(e:(a+1)%n=(b+1)%n):a=b:=by
 by_cases h1:a+1=n
 ·by_cases h2:b+1=n
  ·omega
  ·rw [h1,Nat.mod_self,nu (by omega)] at e;omega
 ·by_cases h2:b+1=n
  ·rw [h2,Nat.mod_self,nu (by omega)] at e;omega
  ·rw [nu (by omega),nu (by omega)] at e;omega
theorem vK{l:List Nat}{x y:Nat}(nd:l.Nodup)(hx:x∈l)(hy:y∈l)(e:iR l x=iR l y):x=y:=by
 have hp:0<l.length:=uu hx;have h1:=kF hx;have h2:=kF hy;rw [e] at h1;have lx:=qQ.mpr hx;have ly:=qQ.mpr hy;obtain ⟨a1,b1⟩:=dU.mp h1;obtain ⟨a2,b2⟩:=dU.mp h2;have q:=(List.getElem_inj nd).mp (b1.trans b2.symm);have q2:=zD lx ly q;have e1:=ux lx;have e2:=ux ly;rw [←e1,←e2];simp only [q2]
theorem xD{w:W}{d:Nat×Nat}(g:Good w)(h:cQ w d):cQ w (vo w d):=vL (g.sym _ _ h)
theorem pj{w:W}{d e:Nat×Nat}(g:Good w)(h:cQ w d)(h':cQ w e)(q:vo w d=vo w e):d=e:=by
 have e2:d.2=e.2:=congrArg Prod.fst q;have e1:iR (row w d.2) d.1=iR (row w e.2) e.1:=congrArg Prod.snd q;rw [←e2] at e1;have h1:d.1∈row w d.2:=g.sym _ _ h;have h2:e.1∈row w d.2:=by rw [e2];exact g.sym _ _ h'
 exact Prod.ext (vK (g.nod _) h1 h2 e1) e2
def oz(w:W):List (Nat×Nat):=(List.range w.length).flatMap λp=>(row w p).map λq=>(p,q)
theorem kz{w:W}{d:Nat×Nat}:d∈oz w↔cQ w d:=by
 unfold oz cQ;rw [List.mem_flatMap]
 constructor
 ·rintro ⟨p,_,h⟩
  obtain ⟨q,hq,rfl⟩:=dX.mp h;exact hq
 ·intro h
  exact ⟨d.1,cq.mpr (bR h),dX.mpr ⟨d.2,h,rfl⟩⟩
theorem aH{α:Type} [DecidableEq α]:∀{l m:List α},l.Nodup→(∀x∈l,x∈m)→l.length≤m.length
 | [],_,_,_=>gB _
 |a::r,m,nd,h=>by
  have tS:=jF.mp nd;have am:=h a eH;have ih:=aH (l:=r) (m:=m.erase a) tS.2 λx hx=>(List.mem_erase_of_ne (λ(e:x=a)=>tS.1 (by rw [←e];exact hx))).mpr (h x (fg _ hx))
  rw [List.length_erase_of_mem am] at ih
  have:=uu am
  simp only [dW];omega
theorem e7{w:W}(g:Good w)(p:Nat):(row w p).length≤w.length:=by
 have:=aH (m:=List.range w.length) (g.nod p) λx hx=>cq.mpr (g.rng _ _ hx)
 simpa using this
theorem qt{α β:Type}{f:α→List β}{k:Nat}:∀{l:List α},(∀x∈l,(f x).length≤k)→(l.flatMap f).length≤l.length*k
 | [],_=>by simp
 |a::r,h=>by
  have ih:=qt (f:=f) (k:=k) (l:=r) λx hx=>h x (fg _ hx)
  have:=h a eH
  rw [List.flatMap_cons,cu,dW,Nat.succ_mul];omega
theorem kh{w:W}(g:Good w):(oz w).length≤w.length*w.length:=by
 have:=qt (f:=λp=>(row w p).map λq=>(p,q)) (k:=w.length) (l:=List.range w.length) λx _=>by rw [aV];exact e7 g x
 rw [j9] at this;exact this
def aY(w:W):Nat→Nat×Nat→Nat×Nat
 |0,d=>d
 |n+1,d=>vo w (aY w n d)
theorem bO{w:W}{d:Nat×Nat}(g:Good w)(h:cQ w d):∀n,cQ w (aY w n d)
 |0=>h
 |n+1=>xD g (bO g h n)
theorem oS{w:W}{d:Nat×Nat}(m:Nat):∀n,aY w (n+m) d=aY w n (aY w m d)
 |0=>by rw [nv];rfl
 |n+1=>by rw [Nat.succ_add];show vo w (aY w (n+m) d)=vo w (aY w n (aY w m d));rw [oS m n]
theorem oT{w:W}{d e:Nat×Nat}(g:Good w)(h:cQ w d)(h':cQ w e):∀n,aY w n d=aY w n e→d=e
 |0,q=>q
 |n+1,q=>oT g h h' n (pj g (bO g h n) (bO g h' n) q)
def walk(w:W)(d:Nat×Nat)(k:Nat):List (Nat×Nat):=(List.range k).map λi=>aY w i d
theorem pR(w:W)(d:Nat×Nat)(k:Nat):walk w d (k+1)=walk w d k++ [aY w k d]:=by
 unfold walk;rw [List.range_succ,cE];rfl
theorem fW(w:W)(d:Nat×Nat)(k:Nat):(walk w d k).length=k:=by unfold walk;simp
theorem kG{w:W}{d:Nat×Nat}(g:Good w)(h:cQ w d){k:Nat}:∀e∈walk w d k,cQ w e:=λe he=>by
 obtain ⟨i,_,rfl⟩:=dX.mp he;exact bO g h i
theorem m9{w:W}{d:Nat×Nat}(g:Good w)(h:cQ w d){k:Nat}(hk:∀j,0<j→j<k→aY w j d≠d):(walk w d k).Nodup:=by
 unfold walk List.Nodup;rw [nj];refine List.Pairwise.imp_of_mem ?_ List.pairwise_lt_range;intro i j hi hj lt e;have M6:=cq.mp hj;have e2:aY w i d=aY w i (aY w (j-i) d):=by rw [←oS (j-i) i,show i+(j-i)=j by omega];exact e
 exact hk (j-i) (by omega) (by omega) (oT g h (bO g h _) i e2).symm
theorem uj{w:W}{d:Nat×Nat}(g:Good w)(h:cQ w d){k:Nat}(hk:∀j,0<j→j<k→aY w j d≠d):k≤(oz w).length:=by
 have:=aH (m:=oz w) (m9 g h hk) λe he=>kz.mpr (kG g h e he)
 rwa [fW] at this
theorem mK{w:W}(g:Good w){S:Nat→Prop}(h0:S 0)(hc:∀p q,S p→q∈row w p→S q):∀p,p<w.length→S p:=λp hp=>by
 have:∀{a b},Reach w a b→S a→S b:=λ {a b} h ha=>by
  induction h with
  |refl=>exact ha
  |step _ hr ih=>exact hc _ _ ih hr
 exact this (g.con p hp) h0
end Wb
namespace L2
open PySem PySem.Spec PyProof.Rows
section
variable {X:Cx}
def BW(K:PySem.W.Frag):V→List V→Hp→VK→Prop:=λx vs H Q=>∃(l:Addr)(xs:List V)(y:V)(j:Nat)(z:V),x= .ref l∧vs= [y]∧H l=some (.lst xs)∧eC y=true∧xs.all eC=true∧xs[j]? =some z∧oH z y=true∧
 (∀(m:Nat) z,m<j→xs[m]? =some z→oH z y=false)∧Q (.int j) H
theorem xC:AJ X "list.index" (BW X.K):=by
 intro pins s σ H x vs v us Q I rx rv h;obtain ⟨l,xs,y,j,z,rfl,rfl,hH,fy,fs,hz,ez,EV,q⟩:=h;cases rx;obtain ⟨u,rfl,ru⟩:=rv.one;obtain ⟨tH,its,n,r,hl,e⟩:=I.lh hH;obtain ⟨w,hw,Ah⟩:=r.get hz
 have hj:j<its.toArray.size:=by
  obtain ⟨h1,_⟩:=dU.mp hw;simpa using h1
 have flat:∀(m:Nat) z,xs[m]? =some z→eC z=true:=λm z h=>(List.all_eq_true.mp fs) z (ee h)
 have NF:its.toArray[j]=w:=by
  obtain ⟨h1,h2⟩:=dU.mp hw;simpa using h2
 have eX:=jP
 have M6:j<xs.length:=by
  obtain ⟨h1,_⟩:=dU.mp hz;exact h1
 refine call_meets F.slot_list_index ⟨_,e,rfl⟩ F.entry_list_index (F.args_list_index_2 _ _) (SeqAt.list_indexAt l its.toArray n none #[] u (jX y) j hj (by omega) ?_ ?_) ⟨e,λw hw=>fU ru fy r fs w (by simpa using hw),?_⟩
 ·rw [NF,nS Ah (flat j z hz)];exact ez
 ·intro m hm xr
  have uY:m<its.length:=by simpa using hm
  obtain ⟨zm,EY⟩:∃zm,xs[m]? =some zm:=⟨_,eG (by omega)⟩
  obtain ⟨wm,NG,Qw⟩:=r.get EY
  have ME:its.toArray[m]=wm:=by
   obtain ⟨h1,h2⟩:=dU.mp NG;simpa using h2
  rw [ME,nS Qw (flat m zm EY)];exact EV m zm xr EY
 ·exact ⟨.int j,H,I.tok _,⟨_,rfl⟩,q⟩
end
mutual
inductive Dp (K:PySem.W.Frag) (H:Hp):V→PyData→Prop
 |aN:Dp K H .aN .none
 |bl (b:Bool):Dp K H (.bl b) (.bool b)
 |int (i:Int):Dp K H (.int i) (.int i)
 |str (x:Str) (h:PyData.strOk x=true):Dp K H (.str x) (.str x)
 |lst {a:Addr} {xs:List V} {ds:List PyData}:bx K H a xs→cH K H xs ds→Dp K H (.ref a) (.list ds)
 |tup {a:Addr} {xs:List V} {ds:List PyData}:dH K H a xs→cH K H xs ds→Dp K H (.ref a) (.tuple ds)
inductive cH (K:PySem.W.Frag) (H:Hp):List V→List PyData→Prop
 |nil:cH K H [] []
 |cons {v:V} {vs:List V} {d:PyData} {ds:List PyData}:Dp K H v d→cH K H vs ds→cH K H (v::vs) (d::ds)
end
section
variable {X:Cx} {pins:List (Addr×Obj)} {σ:St} {H:Hp} {s:Shared}
mutual
theorem Dp.reads(I:Inv X pins σ H s):∀{v:V}{d:PyData}{u:Value},Dp X.K H v d→RelV v u→(∃as,Reads s.heap u d as)∧d.canLay0=true
 |_,_,_, .aN,r=>by cases r;exact ⟨⟨_, .none⟩,rfl⟩
 |_,_,_, .bl b,r=>by cases r;exact ⟨⟨_, .bool b⟩,rfl⟩
 |_,_,_, .int i,r=>by obtain ⟨t,rfl⟩:=r;exact ⟨⟨_, .int i t⟩,rfl⟩
 |_,_,_, .str x h,r=>by obtain ⟨t,rfl⟩:=r;exact ⟨⟨_, .str x t⟩,by simpa [PyData.canLay0] using h⟩
 |_,_,_, .lst h a,r=>by
  cases r;obtain ⟨its,rv,pl,hz⟩:=I.list h;obtain ⟨⟨as,ra⟩,c⟩:=cH.reads I a rv;obtain ⟨o,ho,hc,n,hd⟩:=pl.isList;exact ⟨⟨_, .list ho hc hd (by simpa using ra)⟩,by simpa [PyData.canLay0] using c⟩
 |_,_,_, .tup h a,r=>by
  cases r;obtain ⟨its,rv,pl,hz⟩:=I.tuple h;obtain ⟨⟨as,ra⟩,c⟩:=cH.reads I a rv;obtain ⟨o,ho,hc,n,hd⟩:=pl;exact ⟨⟨_, .tuple ho hc hd (by simpa using ra)⟩,by simpa [PyData.canLay0] using c⟩
theorem cH.reads(I:Inv X pins σ H s):∀{vs:List V}{ds:List PyData}{us:List Value},cH X.K H vs ds→Vals vs us→(∃as,ReadsAll s.heap us ds as)∧PyData.canLayAll0 ds=true
 |_,_,_, .nil, .nil=>⟨⟨_, .nil⟩,by simp [PyData.canLayAll0]⟩
 |_,_,_, .cons a as, .cons r rs=>by
  obtain ⟨⟨x,h1⟩,c1⟩:=Dp.reads I a r;obtain ⟨⟨y,h2⟩,c2⟩:=cH.reads I as rs;exact ⟨⟨_, .cons h1 h2⟩,by simp [PyData.canLayAll0,c1,c2]⟩
end
end
section
variable {X:Cx}
def Kc(K:PySem.W.Frag):R2:=λx y H Q=>∃d e,Dp K H x d∧Dp K H y e∧d.depth≤64∧Q (.bl (PyData.eqv d e)) H
def Kf(K:PySem.W.Frag):R2:=λx y H Q=>∃d e,Dp K H x d∧Dp K H y e∧d.depth≤64∧Q (.bl (!PyData.eqv d e)) H
theorem By(hu:X.A.units+64<cLine):OpR X (compareOp .Eq) (Kc X.K):=by
 intro pins s σ H x y v u Q I rx ry h;obtain ⟨d,e,hd,he,hz,q⟩:=h;obtain ⟨⟨as,r1⟩,c1⟩:=hd.reads I rx;obtain ⟨⟨bs,r2⟩,c2⟩:=he.reads I ry;exact SeqAt.compareEq_reads r1 r2 c1 c2 (by have:=Nat.min_le_left d.depth e.depth;omega) ⟨.bl _,H,I,rfl,q⟩
theorem BC(hu:X.A.units+64<cLine):OpR X (compareOp .NotEq) (Kf X.K):=by
 intro pins s σ H x y v u Q I rx ry h;obtain ⟨d,e,hd,he,hz,q⟩:=h;obtain ⟨⟨as,r1⟩,c1⟩:=hd.reads I rx;obtain ⟨⟨bs,r2⟩,c2⟩:=he.reads I ry;exact SeqAt.compareNe_reads r1 r2 c1 c2 (by have:=Nat.min_le_left d.depth e.depth;omega) ⟨.bl _,H,I,rfl,q⟩
end
def nD(n:Nat):PyData:= .int n
def iV(r:List Nat):PyData:= .list (r.map nD)
theorem gL{α:Type}{f:α→PyData}(hf:∀a b,PyData.eqv (f a) (f b)=true↔a=b):∀xs ys:List α,PyData.eqvAll (xs.map f) (ys.map f)=true↔xs=ys
 | [],[]=>by simp [PyData.eqvAll]
 | [],_::_=>by simp [PyData.eqvAll]
 |_::_,[]=>by simp [PyData.eqvAll]
 |a::xs,b::ys=>by
  have ih:=gL hf xs ys;simp [PyData.eqvAll,hf,ih]
theorem A0(a b:Nat):PyData.eqv (nD a) (nD b)=true↔a=b:=by
 simp [nD,PyData.eqv];omega
theorem lW(a b:List Nat):PyData.eqv (iV a) (iV b)=true↔a=b:=by
 unfold iV;rw [PyData.eqv];exact gL A0 a b
theorem eM{α:Type}{f:α→PyData}{k:Nat}(hf:∀a,(f a).depth≤k):∀xs:List α,PyData.depthAll (xs.map f)≤k
 | []=>by simp [PyData.depthAll]
 |a::xs=>by
  have:=hf a
  have ih:=eM hf xs;simp [PyData.depthAll];omega
theorem jk(a:List Nat):(iV a).depth≤2:=by
 unfold iV;rw [PyData.depth]
 have:=eM (f:=nD) (k:=1) (λn=>by simp [nD,PyData.depth]) a
 omega
def lH(w:List (List Nat)):PyData:= .list (w.map iV)
theorem qs(a b:List (List Nat)):PyData.eqv (lH a) (lH b)=true↔a=b:=by
 unfold lH;rw [PyData.eqv];exact gL lW a b
theorem sV(a:List (List Nat)):(lH a).depth≤3:=by
 unfold lH;rw [PyData.depth]
 have:=eM (f:=iV) (k:=2) jk a
 omega
end L2
namespace L2
open PySem PySem.Spec PyProof.Rows
section
variable {X:Cx}
theorem rb:cU X (.builtin "isinstance") (λxs H Q=>∃(x:V)(n:String)(t:Value)(b:Bool),xs= [x, .ty n]∧gH X.K H x t∧PySem.W.kitOne X.K t (.type n)=some b∧Q (.bl b) H):=by
 intro pins s σ H xs us Q I rv h;obtain ⟨x,n,t,b,rfl,ty,e,q⟩:=h;obtain ⟨u1,u2,rfl,r1,r2⟩:=rv.two;cases r2;exact u9 I r1 ty e λtk=>⟨.bl b,H,I.tok _,rfl,q⟩
theorem qa:cU X (.builtin "sorted") (λxs H Q=>∃(p:Addr)(ns:List Int),xs= [.ref p]∧bx X.K H p (ns.map V.int)∧ns.length<64∧∀(q:Addr)(ms:List Int),H q=none→ms.Perm ns→ms.Pairwise (·≤·)→Q (.ref q) (upd H q (.lst (ms.map V.int)))):=by
 intro pins s σ H xs us Q I rv h;obtain ⟨p,ns,rfl,hp,hz,q⟩:=h;obtain ⟨u,rfl,ru⟩:=rv.one;cases ru;obtain ⟨its,r,pl,_⟩:=I.list hp;have hl:=r.length;rw [aV] at hl;refine sorted_ints pl.isList (intsAre_of r) (by omega) λout ms hI zg hs=>?_
 obtain ⟨e,he⟩:=sortedAll_at s.heap its out;have fr:H (s.heap.objs.size+1)=none:=I.hok.fresh (Nat.le_succ _);have Ng:=zg.length_eq;have cg:64≤sizeLine:=by decide
 refine ⟨.ref (s.heap.objs.size+1),_,I.laid (t':=s.toks) (λb o hb=>sortedAll_old hb) (Nat.le_succ _) (o:= .lst (ms.map V.int)) ⟨by rw [aV];omega,out.toList,e,iS hI,by simpa using he⟩,rfl,q _ ms fr zg hs⟩
end
end L2
set_option maxHeartbeats 4000000
namespace L2
open PySem
theorem bE.of{X:Cx}{scope:Scope}(sc:Scope)(e:X.env.scope=sc)(k:scope.kind= .function)(a:∀x∈scope.names,x.2= .local→scope.names.lookup x.1=some .local)(b:∀x∈scope.names,x.2≠ .cell)
  (c:∀x∈scope.names,x.2= .free→sc.names.lookup x.1=some .cell∨sc.names.lookup x.1=some .free):bE X scope:=⟨k,a,b,λx hx hf=>by rw [←e] at c;exact c x hx hf⟩
structure dY (K:PySem.W.Frag) (mg:Str→Option Value) (x:Str) (st:Stmt) (ps:List Str) where
 f:Addr
 fd:FuncData
 F:p7 K x x st f fd
 b:Binds K fd ps []
 m:mg x=some (.ref f)
theorem aG{H:Hp}{p:Addr}(h:H p=none)(o:HO):aJ H (upd H p o):=λb u q=>by rw [ay (aM q h)];exact q
theorem small{n:Nat}(h:n≤1000):n≤sizeLine:=qW (bI h)
end L2
namespace PySem.SetTable
def jZ(xs:Array Nat):Prop:=∀i j (hj:j<xs.size),i<j→xs[i]! <xs[j]!
theorem yW{xs:Array Nat}{i d:Nat}(h:i<xs.size):xs.getD i d=xs[i]! :=by
 simp [Array.getD,h]
theorem oK{xs:Array Nat}(R:jZ xs)(j:Nat):∀(fuel lo hi:Nat),hi-lo≤fuel→lo≤hi→hi≤xs.size→(∀i,i<lo→xs[i]! <j)→(∀i,hi≤i→i<xs.size→j≤xs[i]!)→
  lo≤below.go xs j fuel lo hi∧below.go xs j fuel lo hi≤hi∧(∀i,i<below.go xs j fuel lo hi→xs[i]! <j)∧∀i,below.go xs j fuel lo hi≤i→i<xs.size→j≤xs[i]!
 |0,lo,hi,h1,h2,h3,a,b=>by
  have:lo=hi:=by omega
  subst this;rw [below.go];exact ⟨bC _,bC _,a,b⟩
 |fuel+1,lo,hi,h1,h2,h3,a,b=>by
  rw [below.go]
  by_cases c:lo<hi
  ·rw [if_pos c]
   have hm:(lo+hi) / 2<xs.size:=by omega
   dsimp only;rw [yW hm]
   by_cases d:xs[(lo+hi) / 2]! <j
   ·rw [if_pos d]
    have:=oK R j fuel ((lo+hi) / 2+1) hi (by omega) (by omega) h3 (λi qd=>by
     by_cases e:i=(lo+hi) / 2
     ·rw [e];exact d
     ·have:=R i ((lo+hi) / 2) hm (by omega);omega) b
    exact ⟨by omega,this.2.1,this.2.2⟩
   ·rw [if_neg d]
    have:=oK R j fuel lo ((lo+hi) / 2) (by omega) (by omega) (by omega) a (λi h4 h5=>by
     by_cases e:i=(lo+hi) / 2
     ·rw [e];omega
     ·have:=R ((lo+hi) / 2) i h5 (by omega);omega)
    exact ⟨this.1,by omega,this.2.2⟩
  ·rw [if_neg c]
   have:lo=hi:=by omega
   subst this;exact ⟨bC _,bC _,a,b⟩
theorem eV{xs:Array Nat}(R:jZ xs)(j:Nat):below xs j≤xs.size∧(∀i,i<below xs j→xs[i]! <j)∧∀i,below xs j≤i→i<xs.size→j≤xs[i]! :=by
 have:=oK R j xs.size 0 xs.size (by omega) (gB _) (bC _) (λi h=>by omega) (λi h1 h2=>by omega)
 exact ⟨this.2.1,this.2.2⟩
theorem below_at{xs:Array Nat}(R:jZ xs){i j:Nat}(h:xs[i]? =some j):below xs j=i:=by
 obtain ⟨hi,e⟩:=uq.mp h;have e':xs[i]! =j:=by simp [hi,e]
 obtain ⟨b1,b2,b3⟩:=eV R j;apply Nat.le_antisymm
 ·apply Classical.byContradiction
  intro c
  have:=b2 i (by omega)
  omega
 ·apply Classical.byContradiction
  intro c;have h1:=b3 (below xs j) (bC _) (by omega)
  have h2:=R (below xs j) i hi (by omega)
  omega
theorem vE{t:SetTable}(R:jZ t.place){i j:Nat}(h:t.place[i]? =some j):t.slot j= .live i:=by
 unfold slot;rw [below_at R h];simp [h]
theorem uc{t:SetTable}(R:jZ t.place)(hd:t.dummies= #[]){j:Nat}(h:∀i:Nat,t.place[i]? ≠some j):t.slot j= .empty:=by
 unfold slot
 have h1:(t.place[below t.place j]? ==some j)=false:=by
  rw [beq_eq_false_iff_ne];exact h _
 dsimp only;rw [if_neg (by rw [h1];exact b8)]
 unfold has;rw [hd];rfl
def ja(mask:Nat)(p:Probe):Probe:=
 if p.more>0 then {p with j:=p.j+1,more:=p.more-1} else
 let (i,perturb):=leap mask p.i p.perturb
 {p with j:=i,more:=runEnd mask i-i,i,perturb}
def nM(mask:Nat)(h:Int):Probe:={j:=bits h%(mask+1),more:=runEnd mask (bits h%(mask+1))-bits h%(mask+1),i:=bits h%(mask+1),perturb:=bits h,dummy:=none}
theorem xX(t:SetTable)(h:Int):t.probeStart h=nM t.mask h:=rfl
def qi(mask:Nat)(h:Int):Nat→Probe
 |0=>nM mask h
 |k+1=>ja mask (qi mask h k)
def br(mask:Nat)(h:Int)(k:Nat):Nat:=(qi mask h k).j
theorem yj(h:Int):bits h<2^64:=by
 unfold bits;have h1:0≤h%(2^64:Int):=Int.emod_nonneg _ (by decide)
 have h2:h%(2^64:Int)<2^64:=Int.emod_lt_of_pos _ (by decide)
 omega
def bX(mask:Nat)(i p:Nat):Nat→Nat×Nat
 |0=>(i,p)
 |r+1=>leap mask (bX mask i p r).1 (bX mask i p r).2
theorem g8(mask i p:Nat):∀r,(bX mask i p r).2=p / 32^r
 |0=>by simp [bX]
 |r+1=>by
  show (bX mask i p r).2 / 32=_;rw [g8 mask i p r,Nat.div_div_eq_div_mul,Nat.pow_succ]
def Bm(mask:Nat)(i:Nat):Nat:=(i*5+1)%(mask+1)
def gO(mask:Nat)(i:Nat):Nat→Nat
 |0=>i
 |r+1=>Bm mask (gO mask i r)
theorem iz(mask i:Nat)(a:Nat):∀b,gO mask i (a+b)=gO mask (gO mask i a) b
 |0=>rfl
 |b+1=>by
  show Bm mask (gO mask i (a+b))=_;rw [iz mask i a b];rfl
theorem mD{mask i p r0:Nat}(h:(bX mask i p r0).2=0):∀r,bX mask i p (r0+r)=(gO mask (bX mask i p r0).1 r,0)
 |0=>by rw [Nat.add_zero,gO];exact Prod.ext rfl h
 |r+1=>by
  show leap mask (bX mask i p (r0+r)).1 (bX mask i p (r0+r)).2=_;rw [mD h r];unfold leap;simp [gO,Bm]
def nY(mask:Nat):Prop:=mask=7∨mask=31∨mask=127∨mask=511
def Ff(mask:Nat):Nat→Nat→List Nat
 |_,0=> []
 |i,n+1=>i::Ff mask (Bm mask i) n
theorem tR{mask s:Nat}:∀{i n:Nat},s∈Ff mask i n→∃r,r<n∧gO mask i r=s
 |i,0,h=>by cases h
 |i,n+1,h=>by
  rcases cF.mp h with rfl|h
  ·exact ⟨0,by omega,rfl⟩
  ·obtain ⟨r,hr,e⟩:=tR h
   refine ⟨r+1,by omega,?_⟩
   have:=iz mask i 1 r
   rw [show 1+r=r+1 by omega] at this
   rw [this];exact e
theorem Fg{mask:Nat}(h:nY mask):(∀s,s≤mask→∃r,r≤mask∧gO mask 0 r=s)∧gO mask 0 (mask+1)=0:=by
 have key:∀m,(List.range (m+1)).all (λs=>(Ff m 0 (m+1)).contains s)=true→∀s,s≤m→∃r,r≤m∧gO m 0 r=s:=λm hm s hs=>by
  have:=List.all_eq_true.mp hm s (cq.mpr (by omega))
  obtain ⟨r,hr,e⟩:=tR (List.contains_iff_mem.mp this);exact ⟨r,by omega,e⟩
 rcases h with rfl|rfl|rfl|rfl
 ·exact ⟨key 7 (by decide+kernel),by decide+kernel⟩
 ·exact ⟨key 31 (by decide+kernel),by decide+kernel⟩
 ·exact ⟨key 127 (by decide+kernel),by decide+kernel⟩
 ·exact ⟨key 511 (by decide+kernel),by decide+kernel⟩
theorem cover{mask:Nat}(h:nY mask){i s:Nat}(hi:i≤mask)(hs:s≤mask):∃r,r≤mask∧gO mask i r=s:=by
 obtain ⟨o,per⟩:=Fg h;obtain ⟨a,ha,rfl⟩:=o i hi;obtain ⟨b,hb,rfl⟩:=o s hs
 by_cases c:a≤b
 ·refine ⟨b-a,by omega,?_⟩
  rw [←iz,show a+(b-a)=b by omega]
 ·refine ⟨mask+1-a+b,by omega,?_⟩
  rw [←iz,show a+(mask+1-a+b)=mask+1+b by omega,iz,per]
def bz(mask:Nat)(p:Probe):Nat→Probe
 |0=>p
 |k+1=>ja mask (bz mask p k)
theorem h7(mask:Nat)(p:Probe)(a:Nat):∀b,bz mask p (a+b)=bz mask (bz mask p a) b
 |0=>rfl
 |b+1=>by
  show ja mask (bz mask p (a+b))=_;rw [h7 mask p a b];rfl
theorem jU(mask:Nat)(h:Int):∀k,qi mask h k=bz mask (nM mask h) k
 |0=>rfl
 |k+1=>by
  show ja mask _=ja mask _;rw [jU mask h k]
theorem lR(mask:Nat)(p:Probe):∀c,c≤p.more→bz mask p c={p with j:=p.j+c,more:=p.more-c}
 |0,_=>rfl
 |c+1,hc=>by
  show ja mask (bz mask p c)=_;rw [lR mask p c (by omega)]
  unfold ja;rw [if_pos (by show p.more-c>0;omega)]
  show ({p with j:=p.j+c+1,more:=p.more-c-1}:Probe)={p with j:=p.j+(c+1),more:=p.more-(c+1)}
  rw [show p.more-c-1=p.more-(c+1) by omega,show p.j+c+1=p.j+(c+1) by omega]
def B6(mask:Nat)(p:Probe)(ip:Nat×Nat):Probe:={p with j:=ip.1,more:=runEnd mask ip.1-ip.1,i:=ip.1,perturb:=ip.2}
theorem more_le(mask i:Nat):runEnd mask i-i≤9:=by
 unfold runEnd
 split<;>omega
theorem ke(mask:Nat)(p:Probe):bz mask p (p.more+1)=B6 mask p (leap mask p.i p.perturb):=by
 show ja mask (bz mask p p.more)=_;rw [lR mask p p.more (bC _)];unfold ja;rw [if_neg (by show ¬p.more-p.more>0;omega)]
 rfl
theorem n5(mask:Nat)(p:Probe):∀r,∃k,k≤p.more+1+10*r∧bz mask p k=B6 mask p (bX mask p.i p.perturb (r+1))
 |0=>⟨p.more+1,by omega,ke mask p⟩
 |r+1=>by
  obtain ⟨k,hk,e⟩:=n5 mask p r;have h9:=more_le mask (bX mask p.i p.perturb (r+1)).1;refine ⟨k+((runEnd mask (bX mask p.i p.perturb (r+1)).1-(bX mask p.i p.perturb (r+1)).1)+1),by omega,?_⟩
  rw [h7,e];exact ke mask (B6 mask p (bX mask p.i p.perturb (r+1)))
theorem ua(mask i p:Nat)(r:Nat):(bX mask i p (r+1)).1≤mask:=by
 show (((bX mask i p r).1*5+1+(bX mask i p r).2 / 32)%(mask+1))≤mask
 have:=nz ((bX mask i p r).1*5+1+(bX mask i p r).2 / 32) (show 0<mask+1 by omega)
 omega
theorem wB{mask i:Nat}(h:i≤mask):i+(runEnd mask i-i)≤mask:=by
 unfold runEnd
 split<;>omega
structure nA (mask:Nat) (p:Probe):Prop where
 le:p.j+p.more≤mask
 more:p.more≤9
 per:p.perturb<2^64
 dum:p.dummy=none
theorem nA.ja{mask:Nat}{p:Probe}(o:nA mask p):nA mask (ja mask p):=by
 unfold SetTable.ja
 split
 ·next h=>exact ⟨by show p.j+1+(p.more-1)≤mask;have:=o.le;omega,by show p.more-1≤9;have:=o.more;omega,o.per,o.dum⟩
 ·refine ⟨wB (by have:=nz (p.i*5+1+p.perturb / 32) (show 0<mask+1 by omega);show (p.i*5+1+p.perturb / 32)%(mask+1)≤mask;omega),more_le _ _,?_,o.dum⟩
  show p.perturb / 32<2^64
  have:=o.per
  omega
theorem nA.start(mask:Nat)(h:Int):nA mask (nM mask h):=⟨wB (mask:=mask) (i:=bits h%(mask+1)) (by have:=nz (bits h) (show 0<mask+1 by omega);omega),more_le _ _,yj h,rfl⟩
theorem nA.bz{mask:Nat}{p:Probe}(o:nA mask p):∀k,nA mask (bz mask p k)
 |0=>o
 |k+1=>(o.bz k).ja
theorem meets{mask:Nat}(f:nY mask){p:Probe}(o:nA mask p){s:Nat}(hs:s≤mask):∃k,k<10*turns mask∧(bz mask p k).j=s:=by
 have z:(bX mask p.i p.perturb 13).2=0:=by
  rw [g8];exact Nat.div_eq_of_lt (eo o.per (by decide))
 obtain ⟨r,hr,e⟩:=cover f (ua mask p.i p.perturb 12) hs;obtain ⟨k,hk,e2⟩:=n5 mask p (12+r);refine ⟨k,?_,?_⟩
 ·have:=o.more
  unfold turns;omega
 ·rw [e2]
  show (bX mask p.i p.perturb (12+r+1)).1=s;rw [show 12+r+1=13+r by omega,mD z]
  exact e
theorem qK{t:SetTable}(R:jZ t.place)(hd:t.dummies= #[])(hashAt:Nat→Int)(h:Int):∀(K fuel:Nat)(p:Probe),p.dummy=none→K<fuel→(∀i:Nat,t.place[i]? ≠some (bz t.mask p K).j)→
  ∃k0,k0≤K∧(∀k',k'<k0→∃i:Nat,t.place[i]? =some (bz t.mask p k').j∧hashAt i≠h)∧
   (((∀i:Nat,t.place[i]? ≠some (bz t.mask p k0).j)∧probe.go t hashAt h fuel p=some (.empty (bz t.mask p k0).j none))∨
    (∃i:Nat,t.place[i]? =some (bz t.mask p k0).j∧hashAt i=h∧probe.go t hashAt h fuel p=some (.candidate (bz t.mask p k0).j i (bz t.mask p (k0+1)))))
 |K,0,p,_,hK,_=>by omega
 |K,fuel+1,p,dn,hK,he=>by
  by_cases c:∃i:Nat,t.place[i]? =some p.j
  ·obtain ⟨i,hi⟩:=c
   have sl:=vE R hi
   by_cases c2:hashAt i=h
   ·refine ⟨0,gB _,λk' h'=>by omega, .inr ⟨i,hi,c2,?_⟩⟩
    rw [probe.go,sl];dsimp only;rw [if_pos (by simpa using c2)]
    rfl
   ·cases K with
    |zero=>exact absurd hi (he i)
    |succ K=>
     have Mu:(ja t.mask p).dummy=none:=by
      unfold ja
      split<;>exact dn
     have e1:∀k,bz t.mask (ja t.mask p) k=bz t.mask p (k+1):=λk=>by
      have:=h7 t.mask p 1 k
      rw [show 1+k=k+1 by omega] at this
      exact this.symm
     obtain ⟨k0,Rj,a,b⟩:=qK R hd hashAt h K fuel (ja t.mask p) Mu (by omega) (by rw [e1];exact he)
     have eg:probe.go t hashAt h (fuel+1) p=probe.go t hashAt h fuel (ja t.mask p):=by
      rw [probe.go,sl];dsimp only;rw [if_neg (by simpa using c2)]
      rfl
     refine ⟨k0+1,by omega,λk' h'=>?_,?_⟩
     ·cases k' with
      |zero=>exact ⟨i,hi,c2⟩
      |succ k'=>
       have:=a k' (by omega)
       rw [e1] at this;exact this
     ·rw [e1,e1] at b
      rw [eg];exact b
  ·have c:∀i:Nat,t.place[i]? ≠some p.j:=λi hi=>c ⟨i,hi⟩
   refine ⟨0,gB _,λk' h'=>by omega, .inl ⟨c,?_⟩⟩
   rw [probe.go,uc R hd c];dsimp only;rw [dn];rfl
structure TOk (t:SetTable) (hs:List Int):Prop where
 few:nY t.mask
 dum:t.dummies= #[]
 rise:jZ t.place
 size:t.place.size=hs.length
 le:∀(i j:Nat),t.place[i]? =some j→j≤t.mask
 room:t.place.size≤t.mask
 path:∀(i:Nat)(h:Int),hs[i]? =some h→∃k,t.place[i]? =some (br t.mask h k)∧∀k',k'<k→∃i':Nat,t.place[i']? =some (br t.mask h k')
theorem sm(mask:Nat)(h:Int)(k:Nat):br mask h k≤mask:=by
 unfold br;rw [jU]
 have:=((nA.start mask h).bz k).le
 omega
theorem TOk.empty{t:SetTable}{hs:List Int}(T:TOk t hs):∃s,s≤t.mask∧∀i:Nat,t.place[i]? ≠some s:=by
 apply Classical.byContradiction;intro c
 have all:∀s∈List.range (t.mask+1),s∈t.place.toList:=λs hs=>by
  apply Classical.byContradiction;intro n;refine c ⟨s,by have:=cq.mp hs;omega,λi hi=>n ?_⟩
  rw [←pU] at hi;exact ee hi
 have:=Wb.aH List.nodup_range all
 rw [j9,fe] at this
 have:=T.room
 omega
theorem TOk.probe{t:SetTable}{hs:List Int}(T:TOk t hs)(hashAt:Nat→Int)(h:Int)(k:Nat):
  ∃k0,k≤k0∧(∀k',k≤k'→k'<k0→∃i:Nat,t.place[i]? =some (br t.mask h k')∧hashAt i≠h)∧
   (((∀i:Nat,t.place[i]? ≠some (br t.mask h k0))∧t.probe hashAt h (qi t.mask h k)=some (.empty (br t.mask h k0) none))∨
    (∃i:Nat,t.place[i]? =some (br t.mask h k0)∧hashAt i=h∧t.probe hashAt h (qi t.mask h k)=some (.candidate (br t.mask h k0) i (qi t.mask h (k0+1))))):=by
 obtain ⟨s,rE,he⟩:=T.empty;have o:=(nA.start t.mask h).bz k;rw [←jU] at o;obtain ⟨K,hK,eK⟩:=meets T.few o rE;have e1:∀c,bz t.mask (qi t.mask h k) c=qi t.mask h (k+c):=λc=>by rw [jU,jU,←h7]
 obtain ⟨k0,h0,a,b⟩:=qK T.rise T.dum hashAt h K (10*turns t.mask) (qi t.mask h k) o.dum hK (by rw [eK];exact he)
 refine ⟨k+k0,by omega,λk' h1 h2=>?_,?_⟩
 ·have:=a (k'-k) (by omega)
  rw [e1,show k+(k'-k)=k' by omega] at this
  exact this
 ·rw [e1,e1] at b
  exact b
theorem gY{α:Type}{xs:Array α}{p:Nat}(x:α)(hp:p≤xs.size)(i:Nat):(insertAt xs p x)[i]? =if i<p then xs[i]? else if i=p then some x else xs[i-1]? :=by
 rw [←pU,SetTable.toList_insertAt];have lt:(xs.toList.take p).length=p:=by rw [jE,fe];omega
 by_cases c:i<p
 ·rw [if_pos c,gS (by omega),wL c,pU]
 ·rw [if_neg c]
  by_cases d:i=p
  ·subst d
   rw [if_pos rfl,i8 (by omega),lt,ny];rfl
  ·rw [if_neg d,i8 (by omega),lt]
   obtain ⟨m,hm⟩:∃m,i-p=m+1:=⟨i-p-1,by omega⟩
   rw [hm,pS,List.getElem?_drop,pU]
   congr 1;omega
theorem dP{α:Type}(xs:Array α)(p:Nat)(x:α):(insertAt xs p x).size=xs.size+1:=by
 rw [←fe,(SetTable.insertAt_perm xs p x).length_eq];simp
theorem fS{xs:Array Nat}{i j:Nat}(h:xs[i]? =some j):xs[i]! =j:=by
 obtain ⟨hi,e⟩:=uq.mp h;simp [hi,e]
theorem xP{xs:Array Nat}(R:jZ xs){j:Nat}(h:∀i:Nat,xs[i]? ≠some j):jZ (insertAt xs (below xs j) j):=by
 obtain ⟨b1,b2,b3⟩:=eV R j;have g:=gY (xs:=xs) j b1;intro a b hb xn;rw [dP] at hb
 have val:∀i,i<xs.size+1→∃v,(insertAt xs (below xs j) j)[i]? =some v∧((i<below xs j∧xs[i]? =some v)∨(i=below xs j∧v=j)∨(below xs j<i∧xs[i-1]? =some v)):=λi hi=>by
  rw [g i]
  by_cases c:i<below xs j
  ·rw [if_pos c,ng (by omega)]
   exact ⟨_,rfl, .inl ⟨c,rfl⟩⟩
  ·rw [if_neg c]
   by_cases d:i=below xs j
   ·rw [if_pos d];exact ⟨j,rfl, .inr (.inl ⟨d,rfl⟩)⟩
   ·rw [if_neg d,ng (by omega)]
    exact ⟨_,rfl, .inr (.inr ⟨by omega,rfl⟩)⟩
 obtain ⟨va,ha,ca⟩:=val a (by omega)
 obtain ⟨vb,jb,cb⟩:=val b (by omega)
 rw [fS ha,fS jb];have lo:∀i v,i<below xs j→xs[i]? =some v→v<j:=λi v h1 h2=>by have:=b2 i h1;rw [fS h2] at this;exact this
 have hi:∀i v,below xs j≤i→xs[i]? =some v→j<v:=λi v h1 h2=>by
  have:=b3 i h1 (uq.mp h2).1
  rw [fS h2] at this
  have:v≠j:=λz=>h i (by rw [h2,z])
  omega
 have mid:∀i k v u,xs[i]? =some v→xs[k]? =some u→i<k→v<u:=λi k v u h1 h2 h3=>by
  have:=R i k (uq.mp h2).1 h3
  rw [fS h1,fS h2] at this;exact this
 rcases ca with ⟨a1,a2⟩ | ⟨a1,rfl⟩ | ⟨a1,a2⟩
 ·rcases cb with ⟨c1,c2⟩ | ⟨c1,rfl⟩ | ⟨c1,c2⟩
  ·exact mid _ _ _ _ a2 c2 xn
  ·exact lo _ _ a1 a2
  ·have:=lo _ _ a1 a2;have:=hi (b-1) _ (by omega) c2;omega
 ·rcases cb with ⟨c1,c2⟩ | ⟨c1,rfl⟩ | ⟨c1,c2⟩
  ·omega
  ·omega
  ·exact hi (b-1) _ (by omega) c2
 ·rcases cb with ⟨c1,c2⟩ | ⟨c1,rfl⟩ | ⟨c1,c2⟩
  ·omega
  ·omega
  ·exact mid _ _ _ _ a2 c2 (by omega)
theorem z8{xs:Array Nat}(R:jZ xs){j s:Nat}:(∃i:Nat,(insertAt xs (below xs j) j)[i]? =some s)↔s=j∨∃i:Nat,xs[i]? =some s:=by
 obtain ⟨b1,_,_⟩:=eV R j;have g:=gY (xs:=xs) j b1
 constructor
 ·rintro ⟨i,h⟩
  rw [g i] at h
  split at h
  ·exact .inr ⟨i,h⟩
  ·split at h
   ·exact .inl (Option.some.inj h).symm
   ·exact .inr ⟨_,h⟩
 ·rintro (rfl| ⟨i,h⟩)
  ·exact ⟨below xs s,by rw [g,if_neg (by omega),if_pos rfl]⟩
  ·by_cases c:i<below xs j
   ·exact ⟨i,by rw [g,if_pos c];exact h⟩
   ·exact ⟨i+1,by rw [g,if_neg (by omega),if_neg (by omega)];exact h⟩
theorem TOk.put{t:SetTable}{hs:List Int}(T:TOk t hs){h:Int}{k:Nat}(he:∀i:Nat,t.place[i]? ≠some (br t.mask h k))(hp:∀k',k'<k→∃i:Nat,t.place[i]? =some (br t.mask h k'))(room:t.place.size+1≤t.mask):
  (t.put (br t.mask h k)).2=below t.place (br t.mask h k)∧below t.place (br t.mask h k)≤hs.length∧
  TOk (t.put (br t.mask h k)).1 (hs.take (below t.place (br t.mask h k))++h::hs.drop (below t.place (br t.mask h k))):=by
 obtain ⟨b1,b2,b3⟩:=eV T.rise (br t.mask h k);have g:=gY (xs:=t.place) (br t.mask h k) b1;have sz:=T.size;have pm:=λs=>z8 (s:=s) (j:=br t.mask h k) T.rise;refine ⟨rfl,by omega,T.few,?_,xP T.rise he,?_,?_,?_,?_⟩
 ·show (if has t.dummies _=true then _ else t.dummies)= #[]
  rw [T.dum];rfl
 ·show (insertAt t.place _ _).size=_
  rw [dP,cu,jE,dW,List.length_drop];omega
 ·intro i j hj
  have hj:(insertAt t.place (below t.place (br t.mask h k)) (br t.mask h k))[i]? =some j:=hj
  rcases (pm j).mp ⟨i,hj⟩ with rfl| ⟨i',h'⟩
  ·exact sm _ _ _
  ·exact T.le _ _ h'
 ·show (insertAt t.place _ _).size≤_
  rw [dP];exact room
 ·intro i h' hi
  show ∃k1,(insertAt t.place (below t.place (br t.mask h k)) (br t.mask h k))[i]? =some (br t.mask h' k1)∧∀k',k'<k1→∃i':Nat,(insertAt t.place (below t.place (br t.mask h k)) (br t.mask h k))[i']? =some (br t.mask h' k');have lt:(hs.take (below t.place (br t.mask h k))).length=below t.place (br t.mask h k):=by rw [jE];omega
  by_cases c:i<below t.place (br t.mask h k)
  ·rw [gS (by omega),wL c] at hi
   obtain ⟨k1,e1,e2⟩:=T.path i h' hi;exact ⟨k1,by rw [g,if_pos c];exact e1,λk' iq=>(pm _).mpr (.inr (e2 k' iq))⟩
  ·rw [i8 (by omega),lt] at hi
   by_cases d:i=below t.place (br t.mask h k)
   ·rw [d,ny] at hi
    cases (Option.some.inj hi);exact ⟨k,by rw [d,g,if_neg (by omega),if_pos rfl],λk' iq=>(pm _).mpr (.inr (hp k' iq))⟩
   ·obtain ⟨m,hm⟩:∃m,i-below t.place (br t.mask h k)=m+1:=⟨i-below t.place (br t.mask h k)-1,by omega⟩
    rw [hm,pS,List.getElem?_drop] at hi;obtain ⟨k1,e1,e2⟩:=T.path _ h' hi;refine ⟨k1,?_,λk' iq=>(pm _).mpr (.inr (e2 k' iq))⟩;rw [g,if_neg c,if_neg d,show i-1=below t.place (br t.mask h k)+m by omega]
    exact e1
theorem mW(mask i p:Nat):∀r,bX mask i p (r+1)=bX mask (leap mask i p).1 (leap mask i p).2 r
 |0=>rfl
 |r+1=>by
  show leap mask (bX mask i p (r+1)).1 (bX mask i p (r+1)).2=_;rw [mW mask i p r];rfl
def Own(o:Array (Option Nat))(s:Nat):Prop:=(o.getD s (some 0)).isNone=false
theorem oI{mask:Nat}(owner:Array (Option Nat)):∀(fuel:Nat)(p:Probe),p.j=p.i→p.more=runEnd mask p.i-p.i→p.i≤runEnd mask p.i→(∃r,r<fuel∧¬Own owner (bX mask p.i p.perturb r).1)→
  ∃k0,layClean.free mask owner fuel p.i p.perturb=some (bz mask p k0).j∧¬Own owner (bz mask p k0).j∧∀k',k'<k0→Own owner (bz mask p k').j
 |0,p,_,_,_,⟨r,hr,_⟩=>by omega
 |fuel+1,p,e1,e2,e3,⟨r,hr,he⟩=>by
  have run:∀c,c≤p.more→(bz mask p c).j=p.i+c:=λc hc=>by rw [lR mask p c hc];show p.j+c=_;rw [e1]
  cases hf:(List.range (runEnd mask p.i+1-p.i)).find? λk=>(owner.getD (p.i+k) (some 0)).isNone with
  |some k=>
   obtain ⟨h1,as,bs,h2,h3⟩:=List.find?_eq_some_iff_append.mp hf;have hk:k<runEnd mask p.i+1-p.i:=cq.mp (by rw [h2];simp)
   have Rq:as.length=k:=by
    have hl:as.length<(List.range (runEnd mask p.i+1-p.i)).length:=by rw [h2];simp
    have:=uw (n:=runEnd mask p.i+1-p.i) (i:=as.length) (by simpa using hl)
    rw [h2,i8 (bC _),ny] at this;exact (Option.some.inj this).symm
   refine ⟨k,?_,?_,λk' iq=>?_⟩
   ·rw [layClean.free,hf,run k (by omega)]
   ·rw [run k (by omega)]
    unfold Own;rw [h1];exact Bool.noConfusion
   ·rw [run k' (by omega)]
    have hm:k'∈as:=by
     have:=uw (n:=runEnd mask p.i+1-p.i) (i:=k') (by omega)
     rw [h2,gS (by omega)] at this
     exact ee this
    have:=h3 k' hm
    unfold Own;exact Bool.not_eq_true' _▸this
  |none=>
   have all:=List.find?_eq_none.mp hf
   have own:∀c,c≤p.more→Own owner (p.i+c):=λc hc=>by
    have:=all c (cq.mpr (by omega))
    unfold Own;exact pW.mpr this
   cases r with
   |zero=>exact absurd (own 0 (gB _)) he
   |succ r=>
    have lp:=ke mask p
    obtain ⟨k0,a,b,c⟩:=oI owner fuel (B6 mask p (leap mask p.i p.perturb)) rfl rfl (by
     show (leap mask p.i p.perturb).1≤runEnd mask (leap mask p.i p.perturb).1;unfold runEnd;split<;>omega) ⟨r,by omega,by rw [mW] at he;exact he⟩
    rw [←lp] at a b c;have e4:∀k,bz mask (bz mask p (p.more+1)) k=bz mask p (p.more+1+k):=λk=>(h7 mask p (p.more+1) k).symm;refine ⟨p.more+1+k0,?_,?_,λk' iq=>?_⟩
    ·rw [layClean.free,hf,←e4,←a,lp];rfl
    ·rw [←e4];exact b
    ·by_cases d:k'≤p.more
     ·rw [run k' d];exact own k' d
     ·have:=c (k'-(p.more+1)) (by omega)
      rw [e4,show p.more+1+(k'-(p.more+1))=k' by omega] at this
      exact this
structure Laid (mask:Nat) (hs:List Int) (owner:Array (Option Nat)) (ss:List Nat):Prop where
 size:owner.size=mask+1
 len:ss.length=hs.length
 nd:ss.Nodup
 le:∀s∈ss,s≤mask
 get:∀s,s≤mask→∀k,owner.getD s (some 0)=some k↔ss[k]? =some s
 path:∀(k:Nat)(h:Int),hs[k]? =some h→∃c,ss[k]? =some (br mask h c)∧∀c',c'<c→br mask h c'∈ss
theorem Laid.own{mask:Nat}{hs:List Int}{owner:Array (Option Nat)}{ss:List Nat}(L:Laid mask hs owner ss){s:Nat}(h:s≤mask):Own owner s↔s∈ss:=by
 unfold Own
 constructor
 ·intro e
  cases o:owner.getD s (some 0) with
  |none=>rw [o] at e;cases e
  |some k=>exact ee ((L.get s h k).mp o)
 ·intro e
  obtain ⟨k,hk⟩:=uv e;rw [(L.get s h k).mpr hk];rfl
theorem vc{mask:Nat}(f:nY mask){hs:List Int}{owner:Array (Option Nat)}{ss:List Nat}(L:Laid mask hs owner ss)(room:hs.length≤mask)(h:Int):
  ∃j,layClean.free mask owner (turns mask) (bits h%(mask+1)) (bits h)=some j∧Laid mask (hs++ [h]) (owner.setIfInBounds j (some hs.length)) (ss++ [j]):=by
 have o:=nA.start mask h
 obtain ⟨s,Io,tF⟩:∃s,s≤mask∧s∉ss:=by
  apply Classical.byContradiction;intro c
  have all:∀s∈List.range (mask+1),s∈ss:=λs hs=>by
   apply Classical.byContradiction;intro n;exact c ⟨s,by have:=cq.mp hs;omega,n⟩
  have:=Wb.aH List.nodup_range all
  rw [j9,L.len] at this;omega
 have z:(bX mask (nM mask h).i (nM mask h).perturb 13).2=0:=by
  rw [g8];exact Nat.div_eq_of_lt (eo o.per (by decide))
 obtain ⟨r,hr,e⟩:=cover f (ua mask (nM mask h).i (nM mask h).perturb 12) Io
 have hi:(nM mask h).i≤mask:=by
  have:=nz (bits h) (show 0<mask+1 by omega)
  show bits h%(mask+1)≤mask;omega
 obtain ⟨k0,a,b,c⟩:=oI owner (turns mask) (nM mask h) rfl rfl (by unfold runEnd;split<;>omega) ⟨13+r,by unfold turns;omega,by
  rw [mD z];show ¬Own owner (gO mask _ r);rw [e,L.own Io];exact tF⟩
 have sl:∀k,(bz mask (nM mask h) k).j=br mask h k:=λk=>by unfold br;rw [jU]
 rw [sl] at a b;have hle:=sm mask h k0;rw [L.own hle] at b;refine ⟨br mask h k0,a,?_,?_,?_,?_,?_,?_⟩
 ·rw [Array.size_setIfInBounds];exact L.size
 ·rw [cu,cu,L.len];rfl
 ·exact jD.mpr ⟨L.nd,by simp,λx hx y hy z=>b (by rw [←eI.mp hy,←z];exact hx)⟩
 ·intro x hx
  rcases b9.mp hx with hx|hx
  ·exact L.le x hx
  ·rw [eI.mp hx];exact hle
 ·intro x hx k
  have e1:(owner.setIfInBounds (br mask h k0) (some hs.length)).getD x (some 0)=if br mask h k0=x then some hs.length else owner.getD x (some 0):=by
   rw [uo,uo,Array.getElem?_setIfInBounds]
   by_cases d:br mask h k0=x
   ·rw [if_pos d,if_pos d,if_pos (by rw [L.size];omega)];rfl
   ·rw [if_neg d,if_neg d]
  rw [e1]
  by_cases d:br mask h k0=x
  ·rw [if_pos d]
   constructor
   ·intro e
    cases (Option.some.inj e);rw [←L.len,i8 (bC _),ny,←d];rfl
   ·intro e
    by_cases q:k<ss.length
    ·rw [gS q] at e
     exact absurd (by rw [d];exact ee e) b
    ·have:k<(ss++ [br mask h k0]).length:=(dU.mp e).1
     rw [cu] at this
     have:k<ss.length+1:=this
     rw [show k=ss.length by omega,L.len]
  ·rw [if_neg d,L.get x hx k]
   constructor
   ·intro e
    rw [gS (dU.mp e).1];exact e
   ·intro e
    by_cases q:k<ss.length
    ·rw [gS q] at e;exact e
    ·have:k<(ss++ [br mask h k0]).length:=(dU.mp e).1
     rw [cu] at this
     have:k<ss.length+1:=this
     rw [show k=ss.length by omega,i8 (bC _),ny] at e
     exact absurd (Option.some.inj e) d
 ·intro k h' hk
  by_cases q:k<hs.length
  ·rw [gS q] at hk
   obtain ⟨c1,e1,e2⟩:=L.path k h' hk;exact ⟨c1,by rw [gS (by rw [L.len];exact q)];exact e1,λc' nE=>fc _ (e2 c' nE)⟩
  ·have:k<(hs++ [h]).length:=(dU.mp hk).1
   rw [cu] at this
   have:k<hs.length+1:=this
   have ek:k=hs.length:=by omega
   subst ek;rw [i8 (bC _),ny] at hk;cases (Option.some.inj hk);refine ⟨k0,by rw [←L.len,i8 (bC _),ny];rfl,λc' nE=>fc _ ?_⟩
   have:=c c' nE
   rw [sl] at this;exact (L.own (sm _ _ _)).mp this
theorem vd(mask:Nat):Laid mask [] (Array.replicate (mask+1) none) [] where
 size:=by simp
 len:=rfl
 nd:=fH
 le:=λs h=>by cases h
 get:=λs hs k=>by
  rw [uo,Array.getElem?_replicate,if_pos (by omega)]
  simp
 path:=λk h e=>by cases e
def qC(mask:Nat)(acc:Option (Array (Option Nat)×Nat))(h:Int):Option (Array (Option Nat)×Nat):=do
 let (owner,k) ←acc
 let j ←layClean.free mask owner (turns mask) (bits h%(mask+1)) (bits h)
 pure (owner.setIfInBounds j (some k),k+1)
theorem qD{mask:Nat}(f:nY mask):∀(rest done:List Int)(owner:Array (Option Nat))(ss:List Nat),Laid mask done owner ss→done.length+rest.length≤mask+1→
  ∃lq Fu,rest.foldl (qC mask) (some (owner,done.length))=some (lq,done.length+rest.length)∧Laid mask (done++rest) lq Fu
 | [],done,owner,ss,L,_=>⟨owner,ss,rfl,by rw [pZ];exact L⟩
 |h::rest,done,owner,ss,L,hl=>by
  rw [dW] at hl;obtain ⟨j,e,L'⟩:=vc f L (by omega) h
  have ef:qC mask (some (owner,done.length)) h=some (owner.setIfInBounds j (some done.length),done.length+1):=by
   unfold qC;simp [e]
  obtain ⟨lq,Fu,e2,L2⟩:=qD f rest (done++ [h]) _ _ L' (by rw [cu];show done.length+1+rest.length≤_;omega)
  refine ⟨lq,Fu,?_,by rw [lN] at L2;exact L2⟩
  rw [List.foldl_cons,ef];rw [cu] at e2;have e2:rest.foldl (qC mask) (some (owner.setIfInBounds j (some done.length),done.length+1))=some (lq,done.length+1+rest.length):=e2;rw [e2,dW]
  congr 2;omega
theorem rH{mask:Nat}(f:nY mask)(hs:List Int)(room:hs.length≤mask+1):∃owner ss,layClean mask hs.toArray=some owner∧Laid mask hs owner ss:=by
 obtain ⟨owner,ss,e,L⟩:=qD f hs [] _ _ (vd mask) (by simpa using room)
 refine ⟨owner,ss,?_,by simpa using L⟩
 have:layClean mask hs.toArray=(hs.foldl (qC mask) (some (Array.replicate (mask+1) none,0))).map (·.1):=by
  unfold layClean;rw [List.foldl_toArray];rfl
 have e:hs.foldl (qC mask) (some (Array.replicate (mask+1) none,0))=some (owner,[].length+hs.length):=e;rw [this,e];rfl
def bV(mask:Nat)(owner:Array (Option Nat)):List (Nat×Nat):=(List.range (mask+1)).filterMap λj=>(owner.getD j none).map (j,·)
theorem xy{mask:Nat}{hs:List Int}{owner:Array (Option Nat)}{ss:List Nat}(L:Laid mask hs owner ss){j k:Nat}:(j,k)∈bV mask owner↔ss[k]? =some j:=by
 unfold bV;rw [List.mem_filterMap]
 have dflt:∀s,s≤mask→owner.getD s none=owner.getD s (some 0):=λs hs=>by
  rw [uo,uo,ng (by rw [L.size];omega)];rfl
 constructor
 ·rintro ⟨s,rE,e⟩
  have rE:=cq.mp rE;rw [dflt s (by omega)] at e
  cases o:owner.getD s (some 0) with
  |none=>rw [o] at e;cases e
  |some k'=>
   rw [o] at e;have e:=Option.some.inj e;have e1:s=j:=(Prod.mk.inj e).1;have e2:k'=k:=(Prod.mk.inj e).2;rw [←e1,←e2];exact (L.get s (by omega) k').mp o
 ·intro e
  have hj:=L.le j (ee e);refine ⟨j,cq.mpr (by omega),?_⟩
  rw [dflt j hj,(L.get j hj k).mpr e];rfl
theorem vg(mask:Nat)(owner:Array (Option Nat)):((bV mask owner).map (·.1)).Pairwise (·<·):=by
 unfold bV;rw [nj,List.pairwise_filterMap];refine List.pairwise_lt_range.imp λ {a b} h x hx y hy=>?_;cases oa:owner.getD a none with
 |none=>rw [oa] at hx;cases hx
 |some ka=>
  cases ob:owner.getD b none with
  |none=>rw [ob] at hy;cases hy
  |some kb=>
   rw [oa] at hx;rw [ob] at hy;cases (Option.some.inj hx);cases (Option.some.inj hy);exact h
theorem zv{mask:Nat}(f:nY mask)(hs:List Int)(room:hs.length≤mask)(finger moves:Nat)(led plain:Bool):
  ∃t order,laid mask finger moves led plain hs.toArray=some (t,order)∧t.mask=mask∧t.led=led∧t.plain=plain∧t.moves=moves∧order.toList.Perm (List.range hs.length)∧TOk t (order.toList.map λk=>hs.getD k 0):=by
 obtain ⟨owner,ss,e,L⟩:=rH f hs (by omega)
 have lm:=λ {j k:Nat}=>xy (j:=j) (k:=k) L;have ri:=vg mask owner
 have vj:((bV mask owner).map (·.2)).Nodup:=by
  rw [wK,nj];rw [nj] at ri;refine ri.imp_of_mem λ {a b} ha hb xn z=>?_;obtain ⟨aj,ak⟩:=a;obtain ⟨bj,bk⟩:=b;have h1:=lm.mp ha;have h2:=lm.mp hb;have z:ak=bk:=z;rw [z,h2] at h1
  have:=Option.some.inj h1
  have xn:aj<bj:=xn;omega
 have perm:((bV mask owner).map (·.2)).Perm (List.range hs.length):=by
  refine (List.perm_ext_iff_of_nodup vj List.nodup_range).mpr λk=>?_;rw [dX,cq]
  constructor
  ·rintro ⟨⟨j,k'⟩,h,rfl⟩
   have:=(dU.mp (lm.mp h)).1
   rw [L.len] at this;exact this
  ·intro hk
   have iq:k<ss.length:=by rw [L.len];exact hk
   exact ⟨(ss[k],k),lm.mpr (eG iq),rfl⟩
 have ll:(bV mask owner).length=hs.length:=by
  have:=perm.length_eq
  simpa using this
 refine ⟨{mask,place:=((bV mask owner).map (·.1)).toArray,dummies:= #[],finger,led,moves,plain},((bV mask owner).map (·.2)).toArray,?_,rfl,rfl,rfl,rfl,by simpa using perm,?_⟩
 ·unfold laid
  rw [e];rfl
 have zX:∀(i j:Nat),((bV mask owner).map (·.1)).toArray[i]? =some j↔∃k,(bV mask owner)[i]? =some (j,k):=λi j=>by
  rw [List.getElem?_toArray,cT];cases o:(bV mask owner)[i]? with
  |none=>simp
  |some x=>
   obtain ⟨a,b⟩:=x;simp
 have NL:∀s,s∈ss→∃i:Nat,((bV mask owner).map (·.1)).toArray[i]? =some s:=λs rE=>by
  obtain ⟨k,hk⟩:=uv rE;obtain ⟨i,hi⟩:=uv (lm.mpr hk);exact ⟨i,(zX i s).mpr ⟨k,hi⟩⟩
 refine ⟨f,rfl,?_,?_,?_,?_,?_⟩
 ·intro a b hb xn
  have hb:b<((bV mask owner).map (·.1)).length:=by simpa using hb
  have:=List.pairwise_iff_getElem.mp ri a b (by omega) hb xn
  simp [show a<(bV mask owner).length by simpa using (show a<((bV mask owner).map (·.1)).length by omega),show b<(bV mask owner).length by simpa using hb]
  simpa using this
 ·simp
 ·intro i j h
  obtain ⟨k,hk⟩:=(zX i j).mp h;exact L.le j (ee (lm.mp (ee hk)))
 ·show ((bV mask owner).map (·.1)).toArray.size≤mask
  simp [ll];exact room
 ·intro i h' hi
  rw [cT] at hi;cases o:(bV mask owner)[i]? with
  |none=>
   have:(((bV mask owner).map (·.2)).toArray.toList)[i]? =none:=by simp [o]
   rw [this] at hi;cases hi
  |some x=>
   obtain ⟨j,k⟩:=x;have e1:(((bV mask owner).map (·.2)).toArray.toList)[i]? =some k:=by simp [o]
   rw [e1] at hi;have sk:=lm.mp (ee o);have hk:k<hs.length:=by rw [←L.len];exact (dU.mp sk).1
   have eh:hs[k]? =some h':=by
    rw [←Option.some.inj hi];show _=some (hs.getD k 0);rw [cM,eG hk];rfl
   obtain ⟨c,p1,p2⟩:=L.path k h' eh;rw [sk] at p1;refine ⟨c,(zX i _).mpr ⟨k,by rw [o,Option.some.inj p1]⟩,λc' nE=>NL _ (p2 c' nE)⟩
end PySem.SetTable
namespace PySem
open SetTable PyProof.Rows
def cG(w:World):Bool:=w.params.followText "set-order"
structure ed (bt:Bool) (o:Obj) (es:Array (Int×Value)) (ep:Nat) (t:SetTable):Prop where
 ex:o.ExactSet
 dat:o.data= .set es ep t
 tok:TOk t (es.toList.map (·.1))
 pl:t.plain=true
 ld:t.led= !bt
 few:5*es.size<3*t.mask
theorem TOk.fits{t:SetTable}{hs:List Int}(T:TOk t hs):t.fits hs.length=true:=by
 simp only [SetTable.fits,SetTable.fill,T.dum,T.size,pX,beq_iff_eq,decide_eq_true_eq,true_and]
 have:=T.room
 rw [T.size] at this;simpa using this
theorem ed.fits{w:Bool}{o:Obj}{es:Array (Int×Value)}{ep:Nat}{t:SetTable}(S:ed w o es ep t):t.fits es.size=true:=by
 have:=TOk.fits S.tok
 simpa using this
theorem xi{mask n:Nat}(f:nY mask)(h:5*n<3*mask):n+1≤mask:=by
 rcases f with rfl|rfl|rfl|rfl<;>omega
theorem ve{t:SetTable}{es:Array (Int×Value)}(T:TOk t (es.toList.map (·.1)))(few:5*es.size<3*t.mask)(h:Int)(x:Value):
  ∃p t',layNew t es h x=(SetTable.insertAt es p (h,x),t',false,false)∧TOk t' ((SetTable.insertAt es p (h,x)).toList.map (·.1))∧t'.mask=t.mask∧t'.plain=t.plain∧t'.led=t.led:=by
 obtain ⟨k0,_,a,b⟩:=TOk.probe T (λ_=>h+1) h 0;obtain ⟨b1,b2⟩:=b.resolve_right (λ⟨i,_,c,_⟩=>by have c:h+1=h:=c;omega)
 have fs:t.freeSlot h=some (br t.mask h k0,false):=by
  unfold SetTable.freeSlot;rw [xX,show nM t.mask h=qi t.mask h 0 from rfl,b2];rfl
 have sz:t.place.size=es.size:=by rw [T.size];simp
 obtain ⟨p1,p2,p3⟩:=TOk.put T (h:=h) (k:=k0) b1 (λk' iq=>let ⟨i,hi,_⟩:=a k' (gB _) iq;⟨i,hi⟩) (by rw [sz];exact xi T.few few)
 have e:(SetTable.insertAt es (below t.place (br t.mask h k0)) (h,x)).toList.map (·.1)=(es.toList.map (·.1)).take (below t.place (br t.mask h k0))++h::(es.toList.map (·.1)).drop (below t.place (br t.mask h k0)):=by
  rw [SetTable.toList_insertAt];simp
 rw [←e] at p3;refine ⟨below t.place (br t.mask h k0),(t.put (br t.mask h k0)).1,?_,p3,rfl,rfl,rfl⟩
 have ft:(t.put (br t.mask h k0)).1.fits (SetTable.insertAt es (below t.place (br t.mask h k0)) (h,x)).size=true:=by
  have:=TOk.fits p3
  rw [aV,fe] at this;exact this
 unfold layNew;rw [fs];show (SetTable.insertAt es (t.put (br t.mask h k0)).2 (h,x),(t.put (br t.mask h k0)).1.orStandIn (SetTable.insertAt es (t.put (br t.mask h k0)).2 (h,x)).size,false,!(t.put (br t.mask h k0)).1.fits (SetTable.insertAt es (t.put (br t.mask h k0)).2 (h,x)).size)=_;rw [p1];unfold SetTable.orStandIn;rw [if_pos ft,ft];rfl
theorem uR{mask n:Nat}(f:nY mask)(h1:3*mask≤5*n)(h2:5*(n-1)<3*mask)(h3:n≤306):nY (sizeAbove (grown n)-1)∧5*n<3*(sizeAbove (grown n)-1)∧n≤sizeAbove (grown n)-1∧sizeAbove (grown n)≤512:=by
 rcases f with rfl|rfl|rfl|rfl
 ·have:n=5:=by omega
  subst this;exact ⟨.inr (.inl rfl),by decide,by decide,by decide⟩
 ·have:n=19:=by omega
  subst this;exact ⟨.inr (.inr (.inl rfl)),by decide,by decide,by decide⟩
 ·have:n=77:=by omega
  subst this;exact ⟨.inr (.inr (.inr rfl)),by decide,by decide,by decide⟩
 ·omega
theorem vB{t:SetTable}{es:Array (Int×Value)}(T:TOk t (es.toList.map (·.1)))(full:t.tooFull=true)(near:5*(es.size-1)<3*t.mask)(small:es.size≤306):
  ∃t' order,t.relaid (es.map (·.1)) (grown es.size)=some (t',order)∧order.toList.Perm (List.range es.size)∧(order.filterMap (es[·]?)).toList.Perm es.toList∧(order.filterMap (es[·]?)).size=es.size∧
   TOk t' ((order.filterMap (es[·]?)).toList.map (·.1))∧t'.plain=t.plain∧t'.led=t.led∧5*es.size<3*t'.mask∧sizeAbove (grown es.size)≤512:=by
 have sz:t.place.size=es.size:=by rw [T.size];simp
 have f1:3*t.mask≤5*es.size:=by
  unfold SetTable.tooFull SetTable.fill at full;rw [T.dum,sz] at full;simp at full;omega
 obtain ⟨g1,g2,g3,g4⟩:=uR T.few f1 near small;obtain ⟨t',order,e,em,el,ep,_,pm,tk⟩:=zv g1 (es.toList.map (·.1)) (by simpa using g3) t.finger (t.movedTo (sizeAbove (grown es.size)-1)) t.led t.plain
 rw [aV,fe] at pm
 have pf:(order.filterMap (es[·]?)).toList.Perm es.toList:=by
  rw [Array.toList_filterMap];exact (pm.filterMap _).trans (by rw [filterMap_getElem?_range])
 have sf:(order.filterMap (es[·]?)).size=es.size:=by rw [←fe,pf.length_eq,fe]
 refine ⟨t',order,?_,pm,pf,sf,?_,ep,el,by rw [em];exact g2,g4⟩
 ·unfold SetTable.relaid
  rw [show es.map (·.1)=(es.toList.map (·.1)).toArray by apply Array.toList_inj.mp;simp]
  exact e
 ·have:(order.filterMap (es[·]?)).toList.map (·.1)=order.toList.map λk=>(es.toList.map (·.1)).getD k 0:=by
   rw [Array.toList_filterMap];have lt:∀k∈order.toList,k<es.size:=λk hk=>cq.mp (pm.mem_iff.mp hk);generalize order.toList=l at lt
   induction l with
   |nil=>rfl
   |cons k l ih=>
    have hk:=lt k (eH ..);rw [List.filterMap_cons_some (b:=es[k]) (by simp [hk]),i9,i9,ih λj hj=>lt j (fg _ hj)]
    simp [hk]
  rw [this];exact tk
theorem sj{t:SetTable}{es:Array (Int×Value)}(T:TOk t (es.toList.map (·.1)))(full:t.tooFull=true)(near:5*(es.size-1)<3*t.mask)(small:es.size≤306):
  ∃gb t',relayAll t es (grown es.size)=(gb,t',false)∧gb.toList.Perm es.toList∧TOk t' (gb.toList.map (·.1))∧t'.plain=t.plain∧t'.led=t.led∧5*es.size<3*t'.mask:=by
 obtain ⟨t',order,e,pm,pf,sf,tk,h1,h2,h3,_⟩:=vB T full near small;refine ⟨_,t',?_,pf,tk,h1,h2,h3⟩;unfold relayAll;rw [e];dsimp only;have c:coversAll order es.size=true:=List.isPerm_iff.mpr pm
 have ft:t'.fits (order.filterMap (es[·]?)).size=true:=by
  have:=TOk.fits tk
  rw [aV,fe] at this;exact this
 rw [c,ft];rfl
end PySem
set_option maxHeartbeats 1000000
namespace PySem
open SetTable PyProof.Rows
section
variable {prog:Program} {w:World} {A:Around} {E:Value→Shared→Prop} {s:Shared}
theorem m6{h:Heap}{a:Addr}{o:Obj}{es:Array (Int×Value)}{ep:Nat}{t:SetTable}(ho:h.get? a=some o)(hd:o.data= .set es ep t)(gb:Array (Int×Value))(t':SetTable):
  (h.update a (Obj.putSet gb t')).get? a=some {o with data:= .set gb (ep+1) t'}:=by
 have:=Heap.get?_update_self (Obj.putSet gb t') ho (by rw [putSet_of gb t' hd];rfl)
 rw [putSet_of gb t' hd] at this;exact this
theorem sv{a:Addr}{o:Obj}{es:Array (Int×Value)}{ep:Nat}{t:SetTable}{k:Int}{x:Value}{Q:Bool→Shared→Prop}(ho:s.heap.get? a=some o)(S:ed (cG w) o es ep t)(HZ:ElemsOf (intKind prog w) es.toList)
  (wd:(intKind prog w).is k x=true) (room:es.size≤305)
  (hm:(∃e∈es.toList,(intKind prog w).is k e.2=true)→Q false s)
  (hn:¬(∃e∈es.toList,(intKind prog w).is k e.2=true)→∀h' o' gb rA t',Heap.SameBut a s.heap h'→h'.get? a=some o'→ed (cG w) o' gb rA t'→gb.toList.Perm (es.toList++ [((intKind prog w).hash k,x)])→Q true {s with heap:=h'}):
  wpAny (model prog w) A (setAddHashed a x ((intKind prog w).hash k)) Q E s:=by
 have hd:=S.dat;have hf:=S.fits;obtain ⟨tk,rfl⟩:=Value.isInt_shape wd;have Ip:(Value.int k tk).scannable=true:=rfl;have hb:es.size<scanBound:=by show es.size<4096;omega
 unfold setAddHashed setAddHashedIn;refine wpAny_holding (wpAny_bind (wpAny_setState_of ho hd hf ?_));dsimp only;rw [byScan_of Ip hb HZ];simp only [↓reduceIte];unfold setAddByScan;refine wpAny_bind ?_;refine wpAny_bind (wpAny_rule ?_);refine wpAny_bind (wpAny_setScan_of wd ho hd hf HZ ?_);cases hr:List.findIdx? (λe=>(intKind prog w).is k e.2) es.toList with
 |some j=>
  dsimp only;obtain ⟨hj,Nt,_⟩:=List.findIdx?_eq_some_iff_getElem.mp hr;exact wpAny_pure (wpAny_pure (hm ⟨es.toList[j],pY hj,Nt⟩))
 |none=>
  dsimp only
  have nm:¬∃e∈es.toList,(intKind prog w).is k e.2=true:=by
   rintro ⟨e,he,hp⟩
   have:=List.findIdx?_eq_none_iff.mp hr e he
   rw [hp] at this;exact Bool.noConfusion this
  obtain ⟨p,t1,eL,T1,m1,p1,l1⟩:=ve S.tok S.few ((intKind prog w).hash k) (.int k tk);rw [eL];dsimp only;refine wpAny_bind (wpAny_pure ?_);rw [show t1.plain=true by rw [p1];exact S.pl]
  simp only [↓reduceIte];refine wpAny_bind ?_;rw [hashByValue_scannable 8 Ip];refine wpAny_pure ?_;simp only [plainKind, ↓reduceIte];have Au:(SetTable.insertAt es p ((intKind prog w).hash k,Value.int k tk)).size=es.size+1:=SetTable.dP ..;have zZ:=SetTable.insertAt_perm es p ((intKind prog w).hash k,Value.int k tk);rw [Array.toList_push] at zZ;refine wpAny_bind (wpAny_storeSet_of ho hd ?_ (by rw [Au];refine fits_of_scanBound ?_;show es.size+1<4096;omega))
  have nF:=m6 ho hd (SetTable.insertAt es p ((intKind prog w).hash k,Value.int k tk)) t1;have Km:=Heap.SameBut.update s.heap a (Obj.putSet (SetTable.insertAt es p ((intKind prog w).hash k,Value.int k tk)) t1)
  by_cases full:t1.tooFull=true
  ·rw [full]
   simp only [Bool.not_false,Bool.and_true, ↓reduceIte];obtain ⟨Er,t2,eR,BQ,T2,p2,l2,f2⟩:=sj T1 full (by rw [Au,m1];have:=S.few;omega) (by rw [Au];omega)
   rw [eR];dsimp only;have KH:Er.size=es.size+1:=by rw [←fe,BQ.length_eq,fe,Au]
   refine wpAny_bind (wpAny_pure ?_);refine wpAny_bind (wpAny_storeSet_of nF rfl ?_ (by rw [KH];refine fits_of_scanBound ?_;show es.size+1<4096;omega))
   have tE:=m6 nF rfl Er t2;refine wpAny_pure (wpAny_pure (hn nm _ _ Er _ t2 (Km.trans (Heap.SameBut.update _ a _)) tE ⟨S.ex,rfl,T2,by rw [p2,p1];exact S.pl,by rw [l2,l1];exact S.ld,by rw [KH];rw [Au] at f2;exact f2⟩ (BQ.trans zZ)))
  ·have ff:t1.tooFull=false:=by simpa using full
   rw [ff];simp only [Bool.not_false,Bool.and_false,wQ, ↓reduceIte];refine wpAny_pure (wpAny_pure (hn nm _ _ _ _ t1 Km nF ⟨S.ex,rfl,T1,by rw [p1];exact S.pl,by rw [l1];exact S.ld,?_⟩ zZ))
   unfold SetTable.tooFull SetTable.fill at ff;rw [T1.dum,T1.size] at ff;simp at ff;omega
theorem oq{Q₁:Value→Shared→Prop}
  (h:Q₁ (.ref s.heap.objs.size) {s with heap:=s.heap.push {cls:= .type "set",dict:=none,data:= .set #[] 0 (.fresh 0 0 (!cG w))}}):
  codeAny (model prog w) A (.call (.builtin "set.__new__") ⟨[.type "set"],[]⟩) (wants Q₁ E) s:=by
 refine codeAny_of_tree ?_;show wpAny _ A.in1 (do checkBuiltinCall "set.__new__" ⟨[.type "set"],[]⟩;again (.builtin "set.__new__" ⟨[.type "set"],[]⟩)) _ _ s
 refine wpAny_bind (wpAny_of_eq F.newCall_set_0 (wpAny_pure ⟨plainId_quiet F.plain_set_new _,codeAny_builtin F.entry_set_new ?_⟩));rw [Around.under_plainId F.plain_set_new _];unfold Builtin.«set.__new__» Builtin.Frozenset.newClass;have Iq:=sub_set_self;obtain ⟨hp,g,d,tk,os⟩:=s;dsimp only
 wp_walk
 refine wpAny_askSetting (wpAny_pure ?_);dsimp only;simp only [newObj];refine wpAny_bind (wpAny_alloc (wpAny_pure ?_));exact wpAny_pure h
theorem rd{Q:Value→Shared→Prop}
  (h:Q (.ref s.heap.objs.size) {s with heap:=s.heap.push {cls:= .type "set",dict:=none,data:= .set #[] 0 (.fresh 0 0 (!cG w))}}):
  wpAny (model prog w) A (call (.type "set") []) Q E s:=by
 obtain ⟨c,tl,QX⟩:=F.called_set.mro;have Nf:=F.called_set.made;have Iq:=F.called_set.sub;refine wpAny_call (codeAny_of_tree ?_);show wpAny _ _ (callAny (.type "set") _) _ _ _;refine wpAny_pure ⟨Code.quiet_builtin _ (by decide+kernel),codeAny_builtin F.entry_type_call ?_⟩
 rw [Around.under_plain (weight_type_call_type "set" [] []) rfl];have h1:=F.called_set.notType;have h2:=F.called_set.canCreate;have Rh:=F.typeCall_set_0
 repeat (any_goals (first|assumption|wp_step))
 refine codeAny_mono (oq (E:=E) (Q₁:=λobj s₁=>obj= .ref s.heap.objs.size∧s₁={s with heap:=s.heap.push {cls:= .type "set",dict:=none,data:= .set #[] 0 (.fresh 0 0 (!cG w))}}) ⟨rfl,rfl⟩) λr s₁ hr=>?_
 cases r with
 |error e=>exact hr
 |ok fl=>
  cases fl with
  |ret obj=>
   obtain ⟨rfl,rfl⟩:=hr;have hS:(s.heap.push {cls:= .type "set",dict:=none,data:= .set #[] 0 (.fresh 0 0 (!cG w))}).get? s.heap.objs.size=some {cls:= .type "set",dict:=none,data:= .set #[] 0 (.fresh 0 0 (!cG w))}:=Heap.get?_push_size _ rfl;have hT:Shared.TypeIs {s with heap:=s.heap.push {cls:= .type "set",dict:=none,data:= .set #[] 0 (.fresh 0 0 (!cG w))}} (.ref s.heap.objs.size) "set":=⟨_,hS,rfl⟩
   have Rk:=F.called_set.init.lookup;have Rg:=F.called_set.init.bind (.ref s.heap.objs.size)
   repeat (any_goals (first|assumption|wp_step))
   refine codeAny_mono (codeAny_call_builtin (R:=wants (λr wH=>r= .none∧Q (.ref s.heap.objs.size) wH) E) F.called_set.init.plain F.entry_set_init (check_set_init hT ?_)) λKk wH u3=>?_
   ·unfold Builtin.«set.__init__» noKeywords
    wp_walk
    exact ⟨rfl,h⟩
   ·cases Kk with
    |error e=>exact u3
    |ok Eu=>
     cases Eu with
     |ret r=>
      obtain ⟨rfl,hq⟩:=u3
      repeat (any_goals (first|assumption|wp_step))
     |_=>exact u3.elim
  |_=>exact hr.elim
theorem ed.new(w:World):ed (cG w) {cls:= .type "set",dict:=none,data:= .set #[] 0 (.fresh 0 0 (!cG w))} #[] 0 (.fresh 0 0 (!cG w)) where
 ex:=⟨rfl,rfl,rfl⟩
 dat:=rfl
 tok:=⟨.inl rfl,rfl,λi j hj=>by simp [SetTable.fresh] at hj,rfl,λi j h=>by simp [SetTable.fresh] at h,by simp [SetTable.fresh],λi h e=>by simp at e⟩
 pl:=rfl
 ld:=rfl
 few:=by simp [SetTable.fresh]
end
namespace F
theorem nB:entryFor table "set.__iter__"=some Builtin.«frozenset.__iter__»:=
 entryFor_alias (id':="frozenset.__iter__") (by kernel_rfl) rfl (by decide+kernel) (by kernel_rfl)
theorem fE:Manifest.owners.lookup (String.ofList ['r','o','t','a','r','e','t','i','_','t','e','s'].reverse)=some Manifest.sig_set_iterator:=by kernel_rfl
theorem aW:Slot "set_iterator" "__next__" "set_iterator.__next__":=
 .of (owner:="set_iterator") (n:="__next__") (by rw [typeLookup_type,builtinLookup_eq_fast];kernel_rfl) (by decide+kernel) (by decide+kernel) (by decide+kernel)
  (by first|exact .inl (by decide+kernel) |exact .inr (by decide+kernel)) (by rw [isSubtype_type];kernel_rfl)
theorem df:entryFor table "set_iterator.__next__"=some Builtin.«set_iterator.__next__»:=entryFor_of_tree (by kernel_rfl)
theorem cS(a:Value):argsOk "set_iterator.__next__" ⟨[a],[]⟩:=by
 unfold argsOk;rw [signature?_of (id:="set_iterator.__next__") (n:= ['_','_','t','x','e','n','_','_']) (o:= ['r','o','t','a','r','e','t','i','_','t','e','s']) (by kernel_rfl) fE];kernel_rfl
theorem dF:Slot "set_iterator" "__iter__" "set_iterator.__iter__":=
 .of (owner:="set_iterator") (n:="__iter__") (by rw [typeLookup_type,builtinLookup_eq_fast];kernel_rfl) (by decide+kernel) (by decide+kernel) (by decide+kernel)
  (by first|exact .inl (by decide+kernel) |exact .inr (by decide+kernel)) (by rw [isSubtype_type];kernel_rfl)
theorem gW:entryFor table "set_iterator.__iter__"=some Builtin.«dict_keyiterator.__iter__»:=
 entryFor_alias (id':="dict_keyiterator.__iter__") (by kernel_rfl) rfl (by decide+kernel) (by kernel_rfl)
theorem gF(a:Value):argsOk "set_iterator.__iter__" ⟨[a],[]⟩:=by
 unfold argsOk;rw [signature?_of (id:="set_iterator.__iter__") (n:= ['_','_','r','e','t','i','_','_']) (o:= ['r','o','t','a','r','e','t','i','_','t','e','s']) (by kernel_rfl) fE];kernel_rfl
end F
theorem mU{α:Type}:∀(l:List α)(i:Nat)(h:i<l.length),(l[i]::l.eraseIdx i).Perm l
 |y::l,0,_=> .refl _
 |y::l,i+1,h=>by
  have:=mU l i (by simpa using h)
  simp only [List.getElem_cons_succ,List.eraseIdx_cons_succ];exact (List.Perm.swap ..).trans (this.cons y)
theorem t4{α:Type}(next:Nat→Nat):∀(fuel k:Nat)(left:List α)(out:Array α),left.length≤fuel→(pickOrder.go next fuel k left out).toList.Perm (out.toList++left)
 |0,k,left,out,h=>by
  have:left= []:=List.length_eq_zero_iff.mp (by omega)
  subst this;simp [pickOrder.go]
 |fuel+1,k,[],out,h=>by
  simp [pickOrder.go]
 |fuel+1,k,y::left,out,h=>by
  have lt:next k%(y::left).length<(y::left).length:=nz _ (by simp)
  unfold pickOrder.go;rw [eG lt];dsimp only;refine (t4 next fuel (k+1) _ _ (by rw [List.length_eraseIdx_of_lt lt];simp at h ⊢;omega)).trans ?_
  rw [Array.toList_push,lN];refine List.Perm.append_left _ ?_;exact mU _ _ lt
def cJ(w:World)(a:Addr)(ep:Nat)(es:Array (Int×Value)):Array (Int×Value):=if cG w=true then pickOrder (w.params.setOrder a ep) es else es
theorem pG(w:World)(a:Addr)(ep:Nat)(es:Array (Int×Value)):(cJ w a ep es).toList.Perm es.toList:=by
 unfold cJ
 split
 ·unfold pickOrder
  simpa using t4 (w.params.setOrder a ep) es.size 0 es.toList #[] (by simp)
 ·exact .refl _
theorem gh(w:World)(a:Addr)(ep:Nat)(es:Array (Int×Value)):(cJ w a ep es).size=es.size:=by
 rw [←fe,(pG w a ep es).length_eq,fe]
def bW(w:World)(t:SetTable)(i:Nat):Nat:=if cG w=true then 0 else if i=0 then 0 else t.place[i-1]! +1
section
variable {prog:Program} {w:World} {A:Around} {E:Value→Shared→Prop} {s:Shared}
theorem sI{t:SetTable}{hs:List Int}(T:TOk t hs)(hb:cG w=false){i:Nat}(hi:i≤hs.length):below t.place (bW w t i)=i:=by
 have sz:=T.size;obtain ⟨b1,b2,b3⟩:=eV T.rise (bW w t i);unfold bW at*;rw [if_neg (by rw [hb];exact b8)] at*
 by_cases z:i=0
 ·rw [if_pos z] at*
  rcases Nat.eq_zero_or_pos (below t.place 0) with h|h
  ·rw [h,z]
  ·exact absurd (b2 0 h) (Nat.not_lt_zero _)
 ·rw [if_neg z] at*
  generalize below t.place (t.place[i-1]! +1)=b at*
  rcases Nat.lt_trichotomy b i with h|h|h
  ·have:=b3 (i-1) (by omega) (by omega)
   omega
  ·exact h
  ·have:=b2 i h
   have:=T.rise (i-1) i (by omega) (by omega)
   omega
theorem iI{a:Addr}{o:Obj}{es:Array (Int×Value)}{ep:Nat}{t:SetTable}{i:Nat}{Q:Option (Value×Nat)→Shared→Prop}(ho:s.heap.get? a=some o)(S:ed (cG w) o es ep t)(hi:i≤es.size)
  (h:Q (((cJ w a ep es)[i]?).map λe=>(e.2,bW w t (i+1))) s):wpAny (model prog w) A (setNext a (bW w t i) i ep) Q E s:=by
 have hd:=S.dat;have hf:=S.fits;unfold setNext;refine wpAny_bind (wpAny_setState_of ho hd hf ?_);dsimp only;unfold setsByText;refine wpAny_bind (wpAny_bind (wpAny_askSetting (wpAny_pure ?_)));cases hb:cG w with
 |true=>
  refine wpAny_ite_true (decide_eq_true (show w.params.followText "set-order"=true from hb)) ?_;rw [if_neg (by simp)]
  unfold setWalk setsByText;refine wpAny_bind (wpAny_bind (wpAny_setState_of ho hd hf ?_));dsimp only;refine wpAny_bind (wpAny_bind (wpAny_askSetting (wpAny_pure ?_)));refine wpAny_ite_true (decide_eq_true (show w.params.followText "set-order"=true from hb)) ?_;refine wpAny_bind (wpAny_askSetting (wpAny_pure (wpAny_pure ?_)));unfold cJ bW at h;rw [if_pos hb,if_pos hb] at h;unfold bW;rw [if_pos hb];exact h
 |false=>
  refine wpAny_ite_false (decide_eq_false (show ¬w.params.followText "set-order"=true from by rw [show w.params.followText "set-order"=false from hb];exact b8)) ?_
  refine wpAny_ite_false ?_ ?_
  ·refine decide_eq_false ?_
   show ¬((!t.plain&&decide (es.size>1))=true);rw [S.pl];simp
  refine wpAny_bind ?_;show wpAny _ _ (if (!t.led&& !es.isEmpty)=true then _ else _) _ _ _;rw [if_neg (by rw [S.ld,hb];simp)]
  refine wpAny_pure ?_;have bn:=sI (w:=w) S.tok hb (i:=i) (by simpa using hi)
  rw [bn];refine wpAny_pure ?_;have sz:t.place.size=es.size:=by rw [S.tok.size];simp
  unfold cJ at h;rw [if_neg (by rw [hb];exact b8)] at h
  by_cases lt:i<es.size
  ·have lp:i<t.place.size:=by omega
   rw [ng lt] at h ⊢;rw [ng lp];dsimp only
   have e:bW w t (i+1)=t.place[i]+1:=by
    unfold bW;rw [if_neg (by rw [hb];exact b8),if_neg (by omega)]
    simp [lp]
   rw [Option.map_some,e] at h;exact h
  ·rw [wM (by omega)] at h ⊢
   exact h
end
def eu(w:World)(h:Heap)(I a:Addr)(t:SetTable)(i n ep:Nat):Prop:=
 ∃o,h.get? I=some o∧o.cls= .type "set_iterator"∧o.data= .fields #[.int (bW w t i:Nat) 0, .int i 0, .ref a, .int n 0, .int ep 0]
section
variable {prog:Program} {w:World} {A:Around} {E:Value→Shared→Prop} {s:Shared}
theorem eu.typeIs{I a:Addr}{t:SetTable}{i n ep:Nat}(x:eu w s.heap I a t i n ep):s.TypeIs (.ref I) "set_iterator":=let ⟨o,ho,hc,_⟩:=x;⟨o,ho,hc⟩
theorem lJ{a:Addr}{o:Obj}{es:Array (Int×Value)}{ep:Nat}{t:SetTable}{Q:Value→Shared→Prop}(ho:s.heap.get? a=some o)(S:ed (cG w) o es ep t)
  (hQ:Q (.ref s.heap.objs.size) {s with heap:=s.heap.push {cls:= .type "set_iterator",data:= .fields #[.int (bW w t 0:Nat) 0, .int (0:Nat) 0, .ref a, .int es.size 0, .int ep 0]}}):
  wpAny (model prog w) A (pyIter (.ref a)) Q E s:=by
 have hd:=S.dat;have hf:=S.fits;have hT:s.TypeIs (.ref a) "set":=⟨o,ho,S.ex.1⟩;refine wpAny_pyIter_slot hT F.slot_set_iter (wpAny_call_entry F.slot_set_iter hT F.nB ?_ (F.args_set_iter_1 _));unfold Builtin.«frozenset.__iter__» Builtin.Frozenset.slot0 slotArgs;simp only [List.isEmpty_nil,Bool.not_true,wQ, ↓reduceIte,bind_assoc,qU,bne_self_eq_false];unfold Builtin.Frozenset.addrOf Builtin.Frozenset.sizeOf;refine wpAny_bind (wpAny_pure ?_)
 try dsimp only
 refine wpAny_bind (wpAny_pure ?_);refine wpAny_bind (wpAny_bind (wpAny_setEntries_of ho hd hf (wpAny_pure ?_)));unfold setDrawn setsByText;refine wpAny_bind (wpAny_bind (wpAny_setState_of ho hd hf ?_));dsimp only;refine wpAny_bind (wpAny_bind (wpAny_askSetting (wpAny_pure ?_)));refine wpAny_pure ?_;refine wpAny_ite_false ?_ ?_
 ·refine decide_eq_false ?_
  show ¬((!w.params.followText "set-order"&&(!t.plain&&decide (es.size>1)))=true);rw [S.pl];simp
 refine wpAny_bind (wpAny_pure ?_);refine wpAny_bind ?_;unfold setEpoch;refine wpAny_bind (wpAny_setState_of ho hd hf (wpAny_pure ?_));refine wpAny_bind (wpAny_newObj_type (wpAny_pure ⟨_,rfl,"set_iterator",_,⟨_,Heap.get?_push_size _ rfl,rfl⟩,F.aW.lookup,?_⟩));have e:bW w t 0=0:=by unfold bW;simp
 rw [e] at hQ;exact hQ
theorem lK{I a:Addr}{o:Obj}{es:Array (Int×Value)}{ep:Nat}{t:SetTable}{i:Nat}{x:Int×Value}{Q:Option Value→Shared→Prop}(hit:eu w s.heap I a t i es.size ep)(ho:s.heap.get? a=some o)(S:ed (cG w) o es ep t)
  (hx:(cJ w a ep es)[i]? =some x) (hQ:∀h',eu w h' I a t (i+1) es.size ep→Heap.SameBut I s.heap h'→Q (some x.2) {s with heap:=h'}):wpAny (model prog w) A (pyNext (.ref I)) Q E s:=by
 obtain ⟨oi,xt,hc,hd⟩:=id hit
 have hi:i<es.size:=by
  have:=(uq.mp hx).1
  rwa [gh] at this
 unfold pyNext
 refine wpAny_bind (wpAny_attempt (wpAny_callSpecial?_slot (name:=Str.ofString "__next__") hit.typeIs F.aW
  (wpAny_call_entry F.aW hit.typeIs F.df ?_ (F.cS _))))
 unfold Builtin.«set_iterator.__next__»;refine wpAny_bind (m:=slotArgs "__next__" 0 _) (wpAny_pure ?_);refine wpAny_bind (wpAny_fieldsOf xt hd ?_);dsimp only;refine wpAny_bind (wpAny_setEntries_of ho S.dat S.fits ?_);rw [if_neg (by simp)]
 refine wpAny_bind ?_;rw [qS,qS,qS];refine iI ho S (qW hi) ?_;rw [hx];dsimp only [Option.map_some];refine wpAny_bind (wpAny_setField xt hd (by simp) ?_)
 have nF:=Heap.get?_update_self (Obj.mapFields (·.setIfInBounds 0 (rawInt (bW w t (i+1):Nat)))) xt (Obj.isFreed_of_fields (Obj.data_mapFields hd _));have y4:=Obj.data_mapFields hd (·.setIfInBounds 0 (rawInt (bW w t (i+1):Nat)));refine wpAny_bind (wpAny_setField nF y4 (by simp) ?_)
 have tE:=Heap.get?_update_self (Obj.mapFields (·.setIfInBounds 1 (rawInt ((i:Int)+1)))) nF (Obj.isFreed_of_fields (Obj.data_mapFields y4 _));refine wpAny_pure ⟨_,rfl,wpAny_pure (hQ _ ⟨_,tE,?_,?_⟩ ((Heap.SameBut.update ..).trans (Heap.SameBut.update ..)))⟩
 ·exact (Obj.cls_mapFields ..).trans ((Obj.cls_mapFields ..).trans hc)
 ·rw [Obj.data_mapFields y4];simp [rawInt]
theorem jd{I a:Addr}{o:Obj}{es:Array (Int×Value)}{ep:Nat}{t:SetTable}{Q:Option Value→Shared→Prop}(hh:A.handled=none)(hit:eu w s.heap I a t es.size es.size ep)(ho:s.heap.get? a=some o)(S:ed (cG w) o es ep t)
  (hQ:∀h',Heap.ExtBut I s.heap h'→Q none {s with heap:=h'}):wpAny (model prog w) A (pyNext (.ref I)) Q E s:=by
 obtain ⟨oi,xt,hc,hd⟩:=id hit;unfold pyNext
 refine wpAny_bind (wpAny_attempt (wpAny_callSpecial?_slot (name:=Str.ofString "__next__") hit.typeIs F.aW
  (wpAny_call_entry F.aW hit.typeIs F.df ?_ (F.cS _))))
 unfold Builtin.«set_iterator.__next__»;refine wpAny_bind (m:=slotArgs "__next__" 0 _) (wpAny_pure ?_);refine wpAny_bind (wpAny_fieldsOf xt hd ?_);dsimp only;refine wpAny_bind (wpAny_setEntries_of ho S.dat S.fits ?_);rw [if_neg (by simp)]
 refine wpAny_bind ?_;rw [qS,qS,qS];refine iI ho S (bC _) ?_;rw [wM (by rw [gh];exact bC _)]
 dsimp only [Option.map_none];refine wpAny_bind (wpAny_setField xt hd (by simp) ?_)
 show wpAny _ _ (newExc (.type "StopIteration") []>>=_) _ _ _;refine wpAny_bind ?_;simp only [newExc,newTuple];refine wpAny_bind (wpAny_newObj_type ?_ (by size_fits))
 refine wpAny_bind (m:=firstArgMember _ _) (wpAny_of_eq (a:=Value.none) (by first|rfl| (simp only [firstArgMember];rfl)) ?_)
 refine wpAny_newObj_type ?_ (by size_fits)
 simp only [raiseNew];refine wpAny_bind (wpAny_handled ?_);rw [show A.in1.handled=none from hh];refine wpAny_bind (wpAny_pure (wpAny_throw ?_));refine wpAny_bind (wpAny_isInstance (T:="StopIteration") (b:=true) ⟨_,Heap.get?_push_size _ rfl,rfl⟩ isSubtype_stop ?_);exact wpAny_pure (hQ _ (((Heap.SameBut.update ..).extBut.push _).push _))
theorem Walks.sets(hh:A.handled=none)(I a:Addr)(EU:a≠I){o:Obj}{es:Array (Int×Value)}{ep:Nat}{t:SetTable}(S:ed (cG w) o es ep t):
  Walks prog w A I [I,a] [I] es.size (λi v=>∃x,(cJ w a ep es)[i]? =some x∧v=x.2) (λi h=>eu w h I a t i es.size ep∧h.get? a=some o) where
 sub:=λb hb=>by simp at hb;simp [hb]
 frame:=λi h h' st hk=>⟨let ⟨oi,ho,r⟩:=st.1;⟨oi,hk I (by simp) _ ho,r⟩,hk a (by simp) _ st.2⟩
 item:=λi s Q E hi st hQ=>by
  have hx:(cJ w a ep es)[i]? =some ((cJ w a ep es)[i]'(by rw [gh];exact hi)):=ng _
  refine lK st.1 st.2 S hx λh' zb rE=>?_;exact hQ _ h' s.toks ⟨_,hx,rfl⟩ ⟨zb,(rE.2 a EU).trans st.2⟩ λb o hb e=>rE.extBut b o (λh=>hb (by simp [h])) e
 done:=λs Q E st hQ=>jd hh st.1 st.2 S λh' y6=>hQ h' s.toks λb o hb e=>y6 b o (λh=>hb (by simp [h])) e
 self:=λi s Q E st hQ=>by
  refine wpAny_pyIter_slot st.1.typeIs F.dF (wpAny_call_entry F.dF st.1.typeIs F.gW ?_ (F.gF _));unfold Builtin.«dict_keyiterator.__iter__»;refine wpAny_bind (m:=slotArgs "__iter__" 0 _) (wpAny_pure ?_);exact wpAny_pure ⟨_,rfl,"set_iterator",_,st.1.typeIs,F.aW.lookup,hQ⟩
end
section
variable {prog:Program} {w:World} {A:Around} {E:Value→Shared→Prop} {s:Shared}
theorem kI{a:Addr}{o:Obj}{es:Array (Int×Value)}{ep:Nat}{t:SetTable}{Q:List Value→Shared→Prop}(hh:A.handled=none)(ho:s.heap.get? a=some o)(S:ed (cG w) o es ep t)
  (hQ:∀h' tk,s.heap.objs.size<h'.objs.size→(∀b o,s.heap.get? b=some o→h'.get? b=some o)→Q ((cJ w a ep es).toList.map (·.2)) {s with heap:=h',toks:=tk}) (hn:es.size≤sizeLine:=by size_fits):
  wpAny (model prog w) A (collect (.ref a)) Q E s:=by
 have ha:a<s.heap.objs.size:=Heap.lt_size ho;unfold collect;refine wpAny_bind (wpAny_runValue (codeAny_builtin F.entry_proto_collect ?_));rw [Around.under_plainId F.plain_proto_collect _];show wpAny _ A.in1 (newList []>>=λl=>again (.builtin "list.__iadd__" ⟨[l, .ref a],[]⟩)) _ _ s;refine wpAny_bind (wpAny_newObj_type ?_);refine wpAny_pure ⟨plainId_quiet F.plain_list_iadd _,codeAny_builtin F.entry_list_iadd ?_⟩;rw [Around.under_plainId F.plain_list_iadd _];have nF:(s.heap.push {cls:= .type "list",data:= .seq ([]:List Value).toArray}).get? a=some o:=Heap.get?_push_of_some _ ho;show wpAny _ A.in1 (Builtin.List.listExtendWith (.ref s.heap.objs.size) (.ref a) (.ref s.heap.objs.size)) _ _ {s with heap:=s.heap.push {cls:= .type "list",data:= .seq ([]:List Value).toArray}}
 unfold Builtin.List.listExtendWith;have hT:Shared.TypeIs {s with heap:=s.heap.push {cls:= .type "list",data:= .seq ([]:List Value).toArray}} (.ref a) "set":=⟨o,nF,S.ex.1⟩
 refine wpAny_bind (wpAny_typeOf hT ?_);have h1:Builtin.List.listSameRef (.ref s.heap.objs.size) (.ref a)=false:=by simp [Builtin.List.listSameRef,Nat.ne_of_gt ha]
 have h2:(Value.type "set"==Value.type "list")=false:=by decide
 have h3:(Value.type "set"==Value.type "tuple")=false:=by decide
 simp only [h1,h2,h3,Bool.or_false,wQ,if_false];refine wpAny_bind (lJ nF S ?_);generalize hI:(s.heap.push {cls:= .type "list",data:= .seq ([]:List Value).toArray}).objs.size=I;have EA:I=s.heap.objs.size+1:=by rw [←hI,size_push']
 have MO:a≠I:=by rw [EA];exact cf (Nat.lt_succ_of_lt ha)
 have HH:s.heap.objs.size≠I:=by rw [EA];exact cf (Nat.lt_succ_self _)
 have HI:s.heap.objs.size≠a:=Nat.ne_of_gt ha;have EB:((s.heap.push {cls:= .type "list",data:= .seq ([]:List Value).toArray}).push {cls:= .type "set_iterator",data:= .fields #[.int (bW w t 0:Nat) 0, .int (0:Nat) 0, .ref a, .int es.size 0, .int ep 0]}).get? s.heap.objs.size=some {cls:= .type "list",data:= .seq ([]:List Value).toArray}:=Heap.get?_push_of_some _ (Heap.get?_push_size _ rfl);have HE:((s.heap.push {cls:= .type "list",data:= .seq ([]:List Value).toArray}).push {cls:= .type "set_iterator",data:= .fields #[.int (bW w t 0:Nat) 0, .int (0:Nat) 0, .ref a, .int es.size 0, .int ep 0]}).get? I=some {cls:= .type "set_iterator",data:= .fields #[.int (bW w t 0:Nat) 0, .int (0:Nat) 0, .ref a, .int es.size 0, .int ep 0]}:=by rw [←hI];exact Heap.get?_push_size _ rfl
 have y0:((s.heap.push {cls:= .type "list",data:= .seq ([]:List Value).toArray}).push {cls:= .type "set_iterator",data:= .fields #[.int (bW w t 0:Nat) 0, .int (0:Nat) 0, .ref a, .int es.size 0, .int ep 0]}).get? a=some o:=Heap.get?_push_of_some _ nF;have Dc:∀b o,s.heap.get? b=some o→((s.heap.push {cls:= .type "list",data:= .seq ([]:List Value).toArray}).push {cls:= .type "set_iterator",data:= .fields #[.int (bW w t 0:Nat) 0, .int (0:Nat) 0, .ref a, .int es.size 0, .int ep 0]}).get? b=some o:=λb o e=>Heap.get?_push_of_some _ (Heap.get?_push_of_some _ e);generalize ((s.heap.push {cls:= .type "list",data:= .seq ([]:List Value).toArray}).push {cls:= .type "set_iterator",data:= .fields #[.int (bW w t 0:Nat) 0, .int (0:Nat) 0, .ref a, .int es.size 0, .int ep 0]})=h2 at EB HE y0 Dc ⊢;have ED:Shared.TypeIs {s with heap:=h2} (.ref a) "set":=⟨o,y0,S.ex.1⟩
 refine wpAny_bind (wpAny_holding ?_);unfold Builtin.List.listLengthHint;refine wpAny_bind (wpAny_specialOf ED F.slot_set_len.lookup ?_)
 (generalize EM:("set.__len__":String)=Iz;(fail_if_success (clear EM Iz));wp_delta;rw [show splitId Iz=some ("set","__len__") from by subst EM;decide+kernel];subst EM)
 refine wpAny_bind (wpAny_isInstance (b:=true) ED sub_set_self ?_);dsimp only;refine wpAny_ite_false (by decide) ?_
 refine wpAny_ite_true (by decide+kernel) ?_
 refine wpAny_bind (wpAny_typeOf ED ?_);refine wpAny_pure ?_;refine wpAny_ite_true (by decide+kernel) ?_
 refine wpAny_bind (wpAny_rule ?_);refine wpAny_bind ?_;show wpAny _ A.in1 (updateSeq s.heap.objs.size (·.push .none)>>=λ_=>updateSeq s.heap.objs.size (·.pop)) _ _ _;refine wpAny_bind (wpAny_updateSeq EB rfl ?_);have yZ:=Heap.get?_update_self (Obj.mapSeq (·.push Value.none)) EB rfl;refine wpAny_updateSeq yZ rfl ?_;have EC:=Heap.get?_update_self (Obj.mapSeq (·.pop)) yZ rfl
 have Fi:∀b o,b≠s.heap.objs.size→h2.get? b=some o→
   ((h2.update s.heap.objs.size (Obj.mapSeq (·.push Value.none))).update s.heap.objs.size (Obj.mapSeq (·.pop))).get? b=some o:=
  λb o hb e=>(Heap.get?_update_other _ _ (Ne.symm hb)).trans ((Heap.get?_update_other _ _ (Ne.symm hb)).trans e)
 have W:=(Walks.sets (prog:=prog) (A:=A.in1) hh I a MO S).toS;have ne1:s.heap.objs.size∉ [I,a]:=by simp [HH,HI]
 refine wpAny_pure ⟨plainId_quiet F.plain_extend_loop _,codeAny_extend_loopS W hn _ ne1 _ es.size 0 _ _ _ rfl (gB _)
  ⟨⟨_,Fi _ _ (Ne.symm HH) HE,rfl,rfl⟩,Fi _ _ (Ne.symm HI) y0⟩ EC (ItemsOf.nil _) λs' gI c' hm HG CY=>?_⟩
 show wpAny _ A (load s.heap.objs.size>>=_) _ _ s';refine wpAny_bind (wpAny_load HG ?_)
 have gb:s'={s with heap:=s'.heap,toks:=s'.toks}:=by
  obtain ⟨iu,g',d',Ry,Fh⟩:=s';obtain ⟨_,hg,hd,rD,_⟩:=hm;have hg:g'=s.gens:=hg;have hd:d'=s.drawn:=hd;have rD:Fh=s.os:=rD;subst hg hd rD;rfl
 have ea:gI.toList=(cJ w a ep es).toList.map (·.2):=by
  refine List.ext_getElem? λj=>?_;rw [pU,cT,pU];have sz:gI.size=(cJ w a ep es).size:=by rw [CY.1,gh]
  by_cases lt:j<gI.size
  ·obtain ⟨x,hx,hv⟩:=CY.2 j gI[j] (ng lt)
   rw [hx,ng lt,hv];rfl
  ·rw [wM (by omega),wM (by omega)];rfl
 rw [gb];show wpAny _ _ (pure gI.toList) Q E _;rw [ea];refine wpAny_pure (hQ _ _ (Heap.lt_size HG) λb o e=>?_);have hb:=Heap.lt_size e;have b1:b≠s.heap.objs.size:=cf hb;have b2:b≠I:=by rw [EA];exact cf (Nat.lt_succ_of_lt hb)
 exact hm.heap b o (by simp [b1,b2]) (Fi b o b1 (Dc b o e))
theorem oR{vs us:List Value}(p:us.Perm vs):∀{ns:List Int},IntsAre vs ns→∃ms,IntsAre us ms∧ms.Perm ns:=by
 induction p with
 |nil=>intro ns h;exact ⟨ns,h, .refl _⟩
 |cons x _ ih=>
  intro ns h;cases h with
  |cons n t h=>
   obtain ⟨ms,a,b⟩:=ih h;exact ⟨n::ms, .cons n t a,b.cons n⟩
 |swap x y l=>
  intro ns h;cases h with
  |cons n t h=>
   cases h with
   |cons m u h=>exact ⟨_, .cons m u (.cons n t h), .swap ..⟩
 |trans _ _ NJ NK=>
  intro ns h;obtain ⟨ms,a,b⟩:=NK h;obtain ⟨ls,c,d⟩:=NJ a;exact ⟨ls,c,d.trans b⟩
theorem ud{a:Addr}{o:Obj}{es:Array (Int×Value)}{ep:Nat}{t:SetTable}{ns:List Int}{Q:Value→Shared→Prop}(hh:A.handled=none)(ho:s.heap.get? a=some o)(S:ed (cG w) o es ep t)(hI:IntsAre (es.toList.map (·.2)) ns)(ML:es.size<64)
  (h:∀h' tk q (out:Array Value) (e:Nat) (ms:List Int),(∀b o,s.heap.get? b=some o→h'.get? b=some o)→s.heap.objs.size≤q→h'.get? q=some {cls:= .type "list",data:= .seq out e}→IntsAre out.toList ms→ms.Perm ns→ms.Pairwise (·≤·)→Q (.ref q) {s with heap:=h',toks:=tk}):
  wpAny (model prog w) A (call (.builtin "sorted") [.ref a]) Q E s:=by
 have pm:=(pG w a ep es).map (λe:Int×Value=>e.2);obtain ⟨E6,i1,i2⟩:∃E6,IntsAre ((cJ w a ep es).toList.map (·.2)) E6∧E6.Perm ns:=oR pm hI;have sz:((cJ w a ep es).toList.map (·.2)).length=es.size:=by rw [aV,fe,gh]
 refine Calls.call_function_entry kind_sorted plain_sorted entry_sorted (args_sorted1 _) ?_;unfold Builtin.«sorted»;refine wpAny_bind (m:=checkCount "sorted" 1 1 _) (wpAny_pure ?_);have line:64≤sizeLine:=by decide
 refine wpAny_bind (kI hh ho S (λh1 tk1 Pj JT=>?_) (by omega))
 refine wpAny_bind (wpAny_newList ?_ (by rw [sz];omega))
 have ze:(h1.push (seqObj "list" ((cJ w a ep es).toList.map (·.2)).toArray 0)).get? h1.objs.size=some (seqObj "list" ((cJ w a ep es).toList.map (·.2)).toArray 0):=Heap.get?_push_size _ rfl;refine wpAny_bind (wpAny_holding (wpAny_call_entry slot_list_sort ⟨_,ze,rfl⟩ entry_list_sort (list_sort_tree ze i1 (by rw [sz];exact ML) λout ms a1 a2 a3=>⟨_,rfl,?_⟩) (args_list_sort _)))
 obtain ⟨e1,nF⟩:∃e1,((h1.push (seqObj "list" ((cJ w a ep es).toList.map (·.2)).toArray 0)).update h1.objs.size (Obj.mapSeq λ_=> #[])).get? h1.objs.size=some (seqObj "list" #[] e1):=⟨_,get?_update_seq ze (λ_=> #[])⟩;have tH:((h1.push (seqObj "list" ((cJ w a ep es).toList.map (·.2)).toArray 0)).update h1.objs.size (Obj.mapSeq λ_=> #[])).objs.size=h1.objs.size+1:=by rw [Heap.size_update,size_push']
 have Nl:((((h1.push (seqObj "list" ((cJ w a ep es).toList.map (·.2)).toArray 0)).update h1.objs.size (Obj.mapSeq λ_=> #[])).push (seqObj "tuple" ((cJ w a ep es).toList.map (·.2)).toArray 0)).push (seqObj "list" #[] 0)).get? h1.objs.size=some (seqObj "list" #[] e1):=
  Heap.get?_push_of_some _ (Heap.get?_push_of_some _ nF)
 have H0:=get?_update_seq Nl (λ_=>out);refine wpAny_pure ⟨_,rfl,h _ _ h1.objs.size out _ ms (λb o e=>?_) (qW Pj) H0 a1 (a2.trans i2) a3⟩;have eb:=JT b o e;have nb:b≠h1.objs.size:=cf (Heap.lt_size eb);show ((((((h1.push (seqObj "list" ((cJ w a ep es).toList.map (·.2)).toArray 0)).update h1.objs.size (Obj.mapSeq λ_=> #[])).push (seqObj "tuple" ((cJ w a ep es).toList.map (·.2)).toArray 0)).push (seqObj "list" #[] 0)).update h1.objs.size (Obj.mapSeq λ_=>out))).get? b=some o;rw [Heap.get?_update_ne _ _ _ _ nb];refine Heap.get?_push_of_some _ (Heap.get?_push_of_some _ ?_);rw [Heap.get?_update_ne _ _ _ _ nb];exact Heap.get?_push_of_some _ eb
end
end PySem
set_option maxHeartbeats 4000000
namespace L2
open PySem PySem.Spec PyProof.Rows
inductive FV where
 |int (i:Int) |bl (b:Bool)
inductive XD where
 |Df (b:Bool) (ps:List (Int×Int)) |lu (ks:List (Int×Int)) (vs:List FV)
inductive D where
 |aN|bl (b:Bool) |int (i:Int) |str (x:Str) |lst (l:List D) |tup (l:List D) |e8 (ns:List Int) |rng (lo hi:Int) |obj (a:Addr) |iH (w:List (List Nat)) |set (b:Bool) (l:List Int) |x (k:XD)
structure DC where
 K:PySem.W.Frag
 C:Addr
def ae(n:Nat):D:= .int n
def aq(r:List Nat):D:= .lst (r.map ae)
def az(w:List (List Nat)):D:= .lst (w.map aq)
def mJ(es:Array (Int×Value))(ns:List Int):Prop:=(∀e∈es.toList,∃k t,e=(hashInt k,Value.int k t))∧ns.Nodup∧∃ms,IntsAre (es.toList.map (·.2)) ms∧ms.Perm ns
def cR(b:Bool)(a:Addr)(ns:List Int)(h:Heap):Prop:=∃o es ep t,h.get? a=some o∧ed b o es ep t∧mJ es ns
def cv(p:Int×Int):Int:=reduceHash (Builtin.Tuple.tupleHashOf [hashInt p.1,hashInt p.2])
inductive jW (H:Hp):List (Int×Addr)→List (Int×Int)→Prop
 |nil:jW H [] []
 |cons {a:Addr} {p:Int×Int} {es:List (Int×Addr)} {ps:List (Int×Int)}:H a=some (.tup [.int p.1, .int p.2])→jW H es ps→jW H ((cv p,a)::es) (p::ps)
theorem jW.mono{H H':Hp}(s:aJ H H'):∀{es:List (Int×Addr)}{ps:List (Int×Int)},jW H es ps→jW H' es ps
 |_,_, .nil=> .nil
 |_,_, .cons h t=> .cons (s _ _ h) (t.mono s)
def Dr(b:Bool)(a:Addr)(es:List (Int×Addr))(h:Heap):Prop:=∃o eA ep t,h.get? a=some o∧ed b o eA ep t∧eA.toList.Perm (es.map λe=>(e.1,Value.ref e.2))
def AH:FV→Value→Prop
 | .int i,v=>∃t,v= .int i t
 | .bl b,v=>v= .bool b
inductive wU:List DictEntry→List (Int×Addr)→List FV→Prop
 |nil:wU [] [] []
 |cons {e:DictEntry} {l:List DictEntry} {h:Int} {a:Addr} {v:FV} {es:List (Int×Addr)} {vs:List FV}:e.hash=h→e.key= .ref a→AH v e.val→wU l es vs→wU (e::l) ((h,a)::es) (v::vs)
def dN(a:Addr)(es:List (Int×Addr))(vs:List FV)(h:Heap):Prop:=(a==sysModules)=false∧∃o eA ep,h.get? a=some o∧o.ExactDict∧o.data= .dict eA ep∧wU eA.toList es vs
def wW(H:Hp)(a:Addr)(φ:Heap→Prop):XD→Prop
 | .Df b ps=>ps.Nodup∧∃es,φ=Dr b a es∧jW H es ps
 | .lu ks vs=>ks.Nodup∧∃es,φ=dN a es vs∧jW H es ks
theorem wW.mono{H H':Hp}(s:aJ H H'){a:Addr}{φ:Heap→Prop}:∀{k:XD},wW H a φ k→wW H' a φ k
 | .Df _ _,⟨n,es,e,p⟩=>⟨n,es,e,p.mono s⟩
 | .lu _ _,⟨n,es,e,p⟩=>⟨n,es,e,p.mono s⟩
mutual
inductive Dv (Z:DC) (H:Hp):V→D→Prop
 |aN:Dv Z H .aN .aN
 |bl (b:Bool):Dv Z H (.bl b) (.bl b)
 |int (i:Int):Dv Z H (.int i) (.int i)
 |str (x:Str) (h:PyData.strOk x=true):Dv Z H (.str x) (.str x)
 |lst {a:Addr} {xs:List V} {ds:List D}:H a=some (.lst xs)→ar Z H xs ds→Dv Z H (.ref a) (.lst ds)
 |tup {a:Addr} {xs:List V} {ds:List D}:H a=some (.tup xs)→ar Z H xs ds→Dv Z H (.ref a) (.tup ds)
 |obj (a:Addr):Dv Z H (.ref a) (.obj a)
 |rng {a:Addr} {lo hi:Int}:H a=some (.rng lo hi)→Dv Z H (.ref a) (.rng lo hi)
 |e8 {a:Addr} {ns:List Int}:bx Z.K H a (ns.map V.int)→ns.length≤63→Dv Z H (.ref a) (.e8 ns)
 |iH {p dx R:Addr} {w:List (List Nat)}:H p=some (.ins Z.C dx [("rows", .ref R)])→Dv Z H (.ref R) (az w)→Wb.Good w→1≤w.length→w.length≤14→Dv Z H (.ref p) (.iH w)
 |set {a:Addr} {b:Bool} {ns:List Int}:H a=some (.ext (cR b a ns))→Dv Z H (.ref a) (.set b ns)
 |x {a:Addr} {φ:Heap→Prop} {k:XD}:H a=some (.ext φ)→wW H a φ k→Dv Z H (.ref a) (.x k)
inductive ar (Z:DC) (H:Hp):List V→List D→Prop
 |nil:ar Z H [] []
 |cons {v:V} {vs:List V} {d:D} {ds:List D}:Dv Z H v d→ar Z H vs ds→ar Z H (v::vs) (d::ds)
end
theorem bx.mono{K:PySem.W.Frag}{H H':Hp}{a:Addr}{xs:List V}(s:aJ H H')(h:bx K H a xs):bx K H' a xs:=by
 rcases h with (h| ⟨o,h⟩) |h
 ·exact .inl (.inl (s _ _ h))
 ·exact .inl (.inr ⟨o,s _ _ h⟩)
 ·exact .inr h
section
variable {Z:DC} {H H' G G':Hp}
theorem Dv.ofInt{v:V}{i:Int}(h:Dv Z H v (.int i)):v= .int i:=by cases h;rfl
theorem Dv.JQ{v:V}{b:Bool}(h:Dv Z H v (.bl b)):v= .bl b:=by cases h;rfl
theorem Dv.fo{v:V}{ds:List D}(h:Dv Z H v (.lst ds)):∃a xs,v= .ref a∧H a=some (.lst xs)∧ar Z H xs ds:=by cases h with|lst h e=>exact ⟨_,_,rfl,h,e⟩
theorem Dv.kB{v:V}{ds:List D}(h:Dv Z H v (.tup ds)):∃a xs,v= .ref a∧H a=some (.tup xs)∧ar Z H xs ds:=by cases h with|tup h e=>exact ⟨_,_,rfl,h,e⟩
theorem Dv.zH{v:V}{ns:List Int}(h:Dv Z H v (.e8 ns)):∃a,v= .ref a∧bx Z.K H a (ns.map V.int)∧ns.length≤63:=by cases h with|e8 h z=>exact ⟨_,rfl,h,z⟩
theorem ar.E8{vs:List V}(h:ar Z H vs []):vs= []:=by cases h;rfl
theorem ar.wu{vs:List V}{d:D}{ds:List D}(h:ar Z H vs (d::ds)):∃v us,vs=v::us∧Dv Z H v d∧ar Z H us ds:=by cases h with|cons a b=>exact ⟨_,_,rfl,a,b⟩
theorem ar.ofOne{vs:List V}{d:D}(h:ar Z H vs [d]):∃v,vs= [v]∧Dv Z H v d:=by
 obtain ⟨v,us,rfl,a,b⟩:=h.wu;rw [b.E8];exact ⟨v,rfl,a⟩
theorem ar.zI{vs:List V}{d e:D}(h:ar Z H vs [d,e]):∃v u,vs= [v,u]∧Dv Z H v d∧Dv Z H u e:=by
 obtain ⟨v,us,rfl,a,b⟩:=h.wu;obtain ⟨u,rfl,c⟩:=b.ofOne;exact ⟨v,u,rfl,a,c⟩
mutual
theorem Dv.mono(s:aJ H H'):∀{v:V}{d:D},Dv Z H v d→Dv Z H' v d
 |_,_, .aN=> .aN
 |_,_, .bl b=> .bl b
 |_,_, .int i=> .int i
 |_,_, .str x h=> .str x h
 |_,_, .lst h a=> .lst (s _ _ h) (ar.mono s a)
 |_,_, .tup h a=> .tup (s _ _ h) (ar.mono s a)
 |_,_, .obj a=> .obj a
 |_,_, .rng h=> .rng (s _ _ h)
 |_,_, .e8 h z=> .e8 (h.mono s) z
 |_,_, .iH h r g a b=> .iH (s _ _ h) (Dv.mono s r) g a b
 |_,_, .set h=> .set (s _ _ h)
 |_,_, .x h k=> .x (s _ _ h) (k.mono s)
theorem ar.mono(s:aJ H H'):∀{vs:List V}{ds:List D},ar Z H vs ds→ar Z H' vs ds
 |_,_, .nil=> .nil
 |_,_, .cons a as=> .cons (Dv.mono s a) (ar.mono s as)
end
theorem ar.length:∀{vs:List V}{ds:List D},ar Z H vs ds→vs.length=ds.length
 |_,_, .nil=>rfl
 |_,_, .cons _ as=>congrArg (·+1) as.length
theorem ar.get:∀{vs:List V}{ds:List D}{i:Nat}{d:D},ar Z H vs ds→ds[i]? =some d→∃v,vs[i]? =some v∧Dv Z H v d
 |_,_,_,_, .nil,e=>by simp at e
 |_,_,0,_, .cons a as,e=>by simp at e;subst e;exact ⟨_,rfl,a⟩
 |_,_,i+1,d, .cons a as,e=>by
  obtain ⟨v,h1,h2⟩:=ar.get (i:=i) (d:=d) as (by simpa using e)
  exact ⟨v,by simpa using h1,h2⟩
theorem ar.tw:∀{vs:List V}{ds:List D}{i:Nat}{v:V},ar Z H vs ds→vs[i]? =some v→∃d,ds[i]? =some d∧Dv Z H v d
 |_,_,_,_, .nil,e=>by simp at e
 |_,_,0,_, .cons a as,e=>by simp at e;subst e;exact ⟨_,rfl,a⟩
 |_,_,i+1,d, .cons a as,e=>by
  obtain ⟨v,h1,h2⟩:=ar.tw (i:=i) (v:=d) as (by simpa using e)
  exact ⟨v,by simpa using h1,h2⟩
theorem ar.append:∀{vs us:List V}{ds es:List D},ar Z H vs ds→ar Z H us es→ar Z H (vs++us) (ds++es)
 |_,_,_,_, .nil,b=>b
 |_,_,_,_, .cons a as,b=> .cons a (as.append b)
theorem ar.take:∀{vs:List V}{ds:List D}(n:Nat),ar Z H vs ds→ar Z H (vs.take n) (ds.take n)
 |_,_,0,_=>by simpa using ar.nil
 |_,_,n+1, .nil=>by simpa using ar.nil
 |_,_,n+1, .cons a as=>by simpa using ar.cons a (as.take n)
theorem ar.drop:∀{vs:List V}{ds:List D}(n:Nat),ar Z H vs ds→ar Z H (vs.drop n) (ds.drop n)
 |_,_,0,h=>h
 |_,_,n+1, .nil=>by simpa using ar.nil
 |_,_,n+1, .cons a as=>by simpa using as.drop n
theorem ar.set{v:V}{d:D}(h:Dv Z H v d):∀{vs:List V}{ds:List D}(n:Nat),ar Z H vs ds→ar Z H (vs.set n v) (ds.set n d)
 |_,_,_, .nil=> .nil
 |_,_,0, .cons a as=> .cons h as
 |_,_,n+1, .cons a as=> .cons a (ar.set h n as)
theorem ar.ints:∀(ns:List Int),ar Z H (ns.map V.int) (ns.map D.int)
 | []=> .nil
 |n::ns=> .cons (.int n) (ar.ints ns)
theorem ar.snoc{vs:List V}{ds:List D}{v:V}{d:D}(a:ar Z H vs ds)(b:Dv Z H v d):ar Z H (vs++ [v]) (ds++ [d]):=a.append (.cons b .nil)
structure Ext (G H G' H':Hp):Prop where
 gg:aJ G G'
 sub:aJ G' H'
 hh:aJ H H'
 off:∀b,H b≠none→G b=none→G' b=none
theorem Ext.refl(s:aJ G H):Ext G H G H:=⟨.refl _,s, .refl _,λ_ _ h=>h⟩
theorem Ext.trans{G1 H1 G2 H2:Hp}(a:Ext G H G1 H1)(b:Ext G1 H1 G2 H2):Ext G H G2 H2:=
 ⟨a.gg.trans b.gg,b.sub,a.hh.trans b.hh,λx h g=>b.off x (λz=>by
  cases e:H x with
  |none=>exact h e
  |some o=>rw [a.hh x o e] at z;cases z) (a.off x h g)⟩
theorem Ext.new{p:Addr}{o:HO}(s:aJ G H)(h:H p=none):Ext G H (upd G p o) (upd H p o):=by
 have hg:G p=none:=s.free h;refine ⟨aG hg o,λb u e=>?_,aG h o,λb hb hg=>?_⟩
 ·by_cases z:b=p
  ·subst z;rw [aw] at e ⊢;exact e
  ·rw [ay z] at e ⊢;exact s b u e
 ·have:b≠p:=λz=>hb (by rw [z];exact h)
  rw [ay this];exact hg
end
abbrev DN:=List (Option D)
structure b0 (Z:DC) (G:Hp) (σ:St) (ρ:DN):Prop where
 len:ρ.length=σ.length
 at_:∀(i:Nat)(d:D),ρ[i]? =some (some d)→∃v,σ[i]? =some (some v)∧Dv Z G v d
section
variable {Z:DC} {G G' H H':Hp} {σ:St} {ρ:DN}
theorem b0.mono(e:b0 Z G σ ρ)(s:aJ G G'):b0 Z G' σ ρ:=⟨e.len,λi d h=>let ⟨v,a,b⟩:=e.at_ i d h;⟨v,a,b.mono s⟩⟩
theorem b0.set{i:Nat}{v:V}{d:D}(e:b0 Z G σ ρ)(h:Dv Z G v d):b0 Z G (σ.set i (some v)) (ρ.set i (some d)):=by
 refine ⟨by rw [fG,fG];exact e.len,λj c hj=>?_⟩
 by_cases z:i=j
 ·subst z
  by_cases hi:i<ρ.length
  ·rw [gw hi] at hj
   cases hj;exact ⟨v,by rw [gw (by rw [←e.len];exact hi)],h⟩
  ·rw [ur (gz hi)] at hj
   rw [gT (gz hi)] at hj;cases hj
 ·rw [gx z] at hj ⊢
  exact e.at_ j c hj
end
abbrev aK:=DN→(D→Prop)→Prop
abbrev bY:=DN→(Bool→Prop)→Prop
abbrev fX:=DN→(List D→Prop)→Prop
abbrev dG:=D→D→(D→Prop)→Prop
abbrev cW:=D→DN→(DN→Prop)→Prop
abbrev gU:=DN→(List D→Prop)→Prop
def cB(Z:DC)(t:aK):TE:=λσ H Q=>∃(G:Hp)(ρ:DN)(P:D→Prop),aJ G H∧b0 Z G σ ρ∧t ρ P∧∀d,P d→∀v G' H',Ext G H G' H'→Dv Z G' v d→Q v H'
def liftT(Z:DC)(t:bY):TT:=λσ H Q=>∃(G:Hp)(ρ:DN)(P:Bool→Prop),aJ G H∧b0 Z G σ ρ∧t ρ P∧∀b,P b→∀G' H',Ext G H G' H'→Q b H'
def vf(Z:DC)(t:fX):TA:=λσ H Q=>∃(G:Hp)(ρ:DN)(P:List D→Prop),aJ G H∧b0 Z G σ ρ∧t ρ P∧∀ds,P ds→∀vs G' H',Ext G H G' H'→ar Z G' vs ds→Q vs H'
def bg(Z:DC)(r:dG):R2:=λx y H Q=>∃(G:Hp)(a b:D)(P:D→Prop),aJ G H∧Dv Z G x a∧Dv Z G y b∧r a b P∧∀d,P d→∀v G' H',Ext G H G' H'→Dv Z G' v d→Q v H'
def ku(Z:DC)(r:List D→(D→Prop)→Prop):List V→Hp→VK→Prop:=λvs H Q=>∃(G:Hp)(ds:List D)(P:D→Prop),aJ G H∧ar Z G vs ds∧r ds P∧∀d,P d→∀v G' H',Ext G H G' H'→Dv Z G' v d→Q v H'
abbrev cj:=List D→(D→Prop)→Prop
def aU(Z:DC)(sd:cj):Sp:=λvs H Q _=>ku Z sd vs H Q
def DE(Z:DC)(X:Cx)(e:Expr)(t:aK):Prop:=PE X e (cB Z t)
def DT(Z:DC)(X:Cx)(e:Expr)(t:bY):Prop:=PT X e (liftT Z t)
def DA(Z:DC)(X:Cx)(es:List Expr)(t:fX):Prop:=PA X es (vf Z t)
theorem PE.imp{X:Cx}{e:Expr}{t t':TE}(h:PE X e t)(f:∀σ H Q,t' σ H Q→t σ H Q):PE X e t':=λpins s σ H Q I q=>h pins s σ H Q I (f _ _ _ q)
theorem PT.imp{X:Cx}{e:Expr}{t t':TT}(h:PT X e t)(f:∀σ H Q,t' σ H Q→t σ H Q):PT X e t':=λpins s σ H Q I q=>h pins s σ H Q I (f _ _ _ q)
theorem PW.imp{X:Cx}{e:Expr}{t t':TT}(h:PW X e t)(f:∀σ H Q,t' σ H Q→t σ H Q):PW X e t':=λwh pins s σ H Q I q=>h wh pins s σ H Q I (f _ _ _ q)
theorem PA.imp{X:Cx}{es:List Expr}{t t':TA}(h:PA X es t)(f:∀σ H Q,t' σ H Q→t σ H Q):PA X es t':=λpos pins s σ H Q I q=>h pos pins s σ H Q I (f _ _ _ q)
theorem OpR.imp{X:Cx}{f:Value→Value→Sem Value}{r r':R2}(h:OpR X f r)(g:∀x y H Q,r' x y H Q→r x y H Q):OpR X f r':=λpins s σ H x y v u Q I a b q=>h pins s σ H x y v u Q I a b (g _ _ _ _ q)
theorem cU.imp{X:Cx}{f:Value}{r r':List V→Hp→VK→Prop}(h:cU X f r)(g:∀xs H Q,r' xs H Q→r xs H Q):cU X f r':=λpins s σ H xs us Q I a q=>h pins s σ H xs us Q I a (g _ _ _ q)
def yz(i:Nat):aK:=λρ P=>∃d,ρ[i]? =some (some d)∧P d
def dC(d:D):aK:=λ_ P=>P d
section
variable {Z:DC} {X:Cx}
theorem aa(i:Nat){x:Str}{pos:Pos}(hN:X.N[i]? =some x:=by rfl)(hv:iK X.env.scope x:=by first|exact Or.inl rfl|exact Or.inr (Or.inl rfl) |exact Or.inr (Or.inr rfl))(hd:(x==("__debug__":Str))=false:=by decide)
  (cA:(x==("__classdict__":Str))=false:=by decide):DE Z X (.Name x pos) (yz i):=
 (r8 hN hv hd cA).imp λσ H Q ⟨G,ρ,P,s,e,⟨d,hd,p⟩,q⟩=>let ⟨v,hv,dv⟩:=e.at_ i d hd;⟨v,hv,q d p v G H (.refl s) dv⟩
theorem av{i j pos}:DE Z X (.Constant (.int i) j pos) (dC (.int i)):=BJ.imp λσ H Q ⟨G,ρ,P,s,e,p,q⟩=>q _ p _ G H (.refl s) (.int i)
theorem lT{b j pos}:DE Z X (.Constant (.bool b) j pos) (dC (.bl b)):=Fj.imp λσ H Q ⟨G,ρ,P,s,e,p,q⟩=>q _ p _ G H (.refl s) (.bl b)
theorem cC{j pos}:DE Z X (.Constant .none j pos) (dC .aN):=BK.imp λσ H Q ⟨G,ρ,P,s,e,p,q⟩=>q _ p _ G H (.refl s) .aN
theorem kN{x j pos}(h:PyData.strOk x=true:=by decide+kernel):DE Z X (.Constant (.str x) j pos) (dC (.str x)):=BN.imp λσ H Q ⟨G,ρ,P,s,e,p,q⟩=>q _ p _ G H (.refl s) (.str x h)
theorem xb{x:Str}{i:Int}{pos:Pos}(hg:Gl X x)(hm:∃tk,X.mg x=some (.int i tk))(hd:(x==("__debug__":Str))=false:=by decide):DE Z X (.Name x pos) (dC (.int i)):=by
 obtain ⟨tk,hm⟩:=hm;exact (zT hg hm (v:= .int i) ⟨tk,rfl⟩ hd).imp λσ H Q ⟨G,ρ,P,s,e,p,q⟩=>q _ p _ G H (.refl s) (.int i)
def w9(r:dG)(ta tb:aK):aK:=λρ P=>ta ρ λa=>tb ρ λb=>r a b P
variable {a b c:Expr} {ta tb tc:aK} {pos:Pos}
theorem rJ{r:dG}:∀σ H Q,cB Z (w9 r ta tb) σ H Q→Az (bg Z r) (cB Z ta) (cB Z tb) σ H Q:=by
 rintro σ H Q ⟨G,ρ,P,s,e,h,q⟩;refine ⟨G,ρ,_,s,e,h,λa ha v G1 H1 x1 dv=>?_⟩;refine ⟨G1,ρ,_,x1.sub,e.mono x1.gg,ha,λb hb u G2 H2 x2 du=>?_⟩;exact ⟨G2,a,b,P,x2.sub,dv.mono x2.gg,du,hb,λd hd v' G' H' x3 jm=>q d hd v' G' H' ((x1.trans x2).trans x3) jm⟩
theorem ax{op:Operator}{r:dG}(ho:OpR X (binaryOp op) (bg Z r))(ha:DE Z X a ta)(hb:DE Z X b tb):DE Z X (.BinOp a op b pos) (w9 r ta tb):=(r6 ho ha hb).imp rJ
theorem rj{op:CmpOp}{r:dG}(ho:OpR X (compareOp op) (bg Z r))(ha:DE Z X a ta)(hb:DE Z X b tb)(hm:behindInMarks op b=false):DE Z X (.Compare a [op] [b] pos) (w9 r ta tb):=(zR ho ha hb hm).imp rJ
def rh(t:aK):bY:=λρ P=>t ρ λd=>∃k,d= .bl k∧P k
theorem qG{t:aK}:∀σ H Q,liftT Z (rh t) σ H Q→vN (cB Z t) σ H Q:=by
 rintro σ H Q ⟨G,ρ,P,s,e,h,q⟩;refine ⟨G,ρ,_,s,e,h,?_⟩;rintro _ ⟨k,rfl,p⟩ v G1 H1 x1 dv;cases dv;exact ⟨k,rfl,q k p G1 H1 x1⟩
theorem aP{op:CmpOp}{r:dG}(ho:OpR X (compareOp op) (bg Z r))(ha:DE Z X a ta)(hb:DE Z X b tb)(hm:behindInMarks op b=false):DT Z X (.Compare a [op] [b] pos) (rh (w9 r ta tb)):=
 (z5 ho ha hb hm).imp λσ H Q h=>by
  obtain h:=qG σ H Q h;exact rJ σ H _ h
def rf(r r':dG)(ta tb tc:aK):aK:=λρ P=>ta ρ λx=>tb ρ λy=>r x y λz=>∃k,z= .bl k∧(if k=true then tc ρ λw'=>r' y w' P else P (.bl false))
theorem oW{r r':dG}:∀σ H Q,cB Z (rf r r' ta tb tc) σ H Q→su (bg Z r) (bg Z r') (cB Z ta) (cB Z tb) (cB Z tc) σ H Q:=by
 rintro σ H Q ⟨G,ρ,P,s,e,h,q⟩;refine ⟨G,ρ,_,s,e,h,λa ha v G1 H1 x1 dv=>?_⟩;refine ⟨G1,ρ,_,x1.sub,e.mono x1.gg,ha,λb hb u G2 H2 x2 du=>?_⟩;refine ⟨G2,a,b,_,x2.sub,dv.mono x2.gg,du,hb,?_⟩;rintro _ ⟨k,rfl,hk⟩ v' G3 H3 x3 jm;cases jm;refine ⟨k,rfl,?_⟩;have x:=(x1.trans x2).trans x3;cases k with
 |false=>exact cD (q _ hk _ G3 H3 x (.bl false))
 |true=>
  refine b6 ⟨G3,ρ,_,x3.sub,e.mono x.gg,hk,λc hc w' G4 H4 x4 dw=>?_⟩;exact ⟨G4,b,c,P,x4.sub,(du.mono x3.gg).mono x4.gg,dw,hc,λd hd QN G' H' x5 d5=>q d hd QN G' H' ((x.trans x4).trans x5) d5⟩
theorem xa{op kC:CmpOp}{r r':dG}(ho:OpR X (compareOp op) (bg Z r))(gX:OpR X (compareOp kC) (bg Z r'))(ha:DE Z X a ta)(hb:DE Z X b tb)(hc:DE Z X c tc)
  (hm:lastMarks [op,kC] [b,c]=false:=by with_unfolding_all rfl):DE Z X (.Compare a [op,kC] [b,c] pos) (rf r r' ta tb tc):=(xE ho gX ha hb hc hm).imp oW
theorem xg{op kC:CmpOp}{r r':dG}(ho:OpR X (compareOp op) (bg Z r))(gX:OpR X (compareOp kC) (bg Z r'))(ha:DE Z X a ta)(hb:DE Z X b tb)(hc:DE Z X c tc)
  (hm:lastMarks [op,kC] [b,c]=false:=by with_unfolding_all rfl):DT Z X (.Compare a [op,kC] [b,c] pos) (rh (rf r r' ta tb tc)):=
 (xM ho gX ha hb hc hm).imp λσ H Q h=>by
  obtain h:=qG σ H Q h;exact oW σ H _ h
def qO:D→Bool
 | .aN=>false
 | .bl b=>b
 | .int i=>i !=0
 | .str x=>x.length !=0
 | .lst l=>!l.isEmpty
 | .tup l=>!l.isEmpty
 | .e8 l=>!l.isEmpty
 | .rng lo hi=>decide (lo<hi)
 | .obj _=>true
 | .iH _=>true
 | .set _ l=>!l.isEmpty
 | .x _=>true
def IC:D→Bool
 | .bl _=>true
 | .int _=>true
 | .lst _=>true
 | .tup _=>true
 | .aN=>true
 |_=>false
def GW(t:aK):bY:=λρ P=>t ρ λd=>IC d=true∧P (qO d)
theorem mR{G:Hp}{vs:List V}{ds:List D}(h:ar Z G vs ds):vs.isEmpty=ds.isEmpty:=by cases h<;>rfl
theorem gK(ha:DE Z X a ta)(he:∀whole,isTrue a X.env whole=(do let v ←whole;standAt a.pos;holding [v] (truthy v)):=by intro _;rfl):DT Z X a (GW ta):=by
 refine (xN ha he).imp ?_;rintro σ H Q ⟨G,ρ,P,s,e,h,q⟩;refine ⟨G,ρ,_,s,e,h,?_⟩;rintro d ⟨hd,p⟩ v G1 H1 x1 dv;refine ⟨qO d,?_,q _ p G1 H1 x1⟩;cases dv with
 |aN=>rfl
 |bl b=>rfl
 |int i=>rfl
 |lst h a=>exact .inl ⟨_,bx.of (x1.sub _ _ h),by rw [mR a];rfl⟩
 |tup h a=>exact .inr (.inl ⟨_,dH.of (x1.sub _ _ h),by rw [mR a];rfl⟩)
 |_=>cases hd
def GG(t u:bY):bY:=λρ P=>t ρ λc=>if c=true then u ρ P else P false
def Mh(t u:bY):bY:=λρ P=>t ρ λc=>if c=true then P true else u ρ P
def GQ(t:bY):bY:=λρ P=>t ρ λc=>P (!c)
variable {tA sr:bY} {rest:List Expr}
def DW(Z:DC)(X:Cx)(e:Expr)(t:bY):Prop:=PW X e (liftT Z t)
theorem DW.dt{e:Expr}{t:bY}(h:DW Z X e t):DT Z X e t:=PW.pt h
theorem oG(ha:DT Z X a tA):DW Z X (.BoolOp .And [a] pos) tA:=z9 ha
theorem wa(ha:DT Z X a tA):DW Z X (.BoolOp .Or [a] pos) tA:=BV ha
theorem rm(ha:DT Z X a tA)(hb:DW Z X (.BoolOp .And (b::rest) pos) sr):DW Z X (.BoolOp .And (a::b::rest) pos) (GG tA sr):=by
 refine (BU ha hb).imp ?_;rintro σ H Q ⟨G,ρ,P,s,e,h,q⟩;refine ⟨G,ρ,_,s,e,h,λc hc G1 H1 x1=>?_⟩;cases c with
 |true=>exact b6 ⟨G1,ρ,P,x1.sub,e.mono x1.gg,hc,λb hb G2 H2 x2=>q b hb G2 H2 (x1.trans x2)⟩
 |false=>exact cD (q _ hc G1 H1 x1)
theorem yO(ha:DT Z X a tA)(hb:DW Z X (.BoolOp .Or (b::rest) pos) sr):DW Z X (.BoolOp .Or (a::b::rest) pos) (Mh tA sr):=by
 refine (Fm ha hb).imp ?_;rintro σ H Q ⟨G,ρ,P,s,e,h,q⟩;refine ⟨G,ρ,_,s,e,h,λc hc G1 H1 x1=>?_⟩;cases c with
 |false=>exact cD ⟨G1,ρ,P,x1.sub,e.mono x1.gg,hc,λb hb G2 H2 x2=>q b hb G2 H2 (x1.trans x2)⟩
 |true=>exact b6 (q _ hc G1 H1 x1)
theorem jL(ha:DT Z X a tA):DT Z X (.UnaryOp .Not a pos) (GQ tA):=by
 refine (BS ha).imp ?_;rintro σ H Q ⟨G,ρ,P,s,e,h,q⟩;exact ⟨G,ρ,_,s,e,h,λc hc G1 H1 x1=>q _ hc G1 H1 x1⟩
def DY(ta tb:aK):aK:=λρ P=>ta ρ λx=>∃c,x= .bl c∧if c=true then tb ρ P else P (.bl false)
def D7(ta:aK):aK:=λρ P=>ta ρ λx=>∃c,x= .bl c∧P (.bl (!c))
theorem nQ{op}(h:DE Z X a ta):DE Z X (.BoolOp op [a] pos) ta:=BM h
theorem jJ(ha:DE Z X a ta)(hb:DE Z X (.BoolOp .And (b::rest) pos) tb):DE Z X (.BoolOp .And (a::b::rest) pos) (DY ta tb):=by
 refine (BF ha hb).imp ?_;rintro σ H Q ⟨G,ρ,P,s,e,h,q⟩;refine ⟨G,ρ,_,s,e,h,?_⟩;rintro _ ⟨c,rfl,hc⟩ v G1 H1 x1 dv;cases dv;refine ⟨c,rfl,?_⟩;cases c with
 |true=>exact b6 ⟨G1,ρ,P,x1.sub,e.mono x1.gg,hc,λb hb v G2 H2 x2 d2=>q b hb v G2 H2 (x1.trans x2) d2⟩
 |false=>exact cD (q _ hc _ G1 H1 x1 (.bl false))
theorem v3(ha:DE Z X a ta):DE Z X (.UnaryOp .Not a pos) (D7 ta):=by
 refine (BL ha).imp ?_;rintro σ H Q ⟨G,ρ,P,s,e,h,q⟩;refine ⟨G,ρ,_,s,e,h,?_⟩;rintro _ ⟨c,rfl,hc⟩ v G1 H1 x1 dv;cases dv;exact ⟨c,rfl,q _ hc _ G1 H1 x1 (.bl _)⟩
def CN:fX:=λ_ P=>P []
def D0(ta:aK)(t:fX):fX:=λρ P=>ta ρ λx=>t ρ λxs=>P (x::xs)
variable {es:List Expr} {t:fX} {e:Expr}
theorem ah:DA Z X [] CN:=eO.imp λσ H Q ⟨G,ρ,P,s,e,p,q⟩=>q _ p _ G H (.refl s) .nil
theorem ab(ha:DE Z X e ta)(hr:DA Z X es t)(hs:starEach (e::es) X.env=(false,eval e X.env)::starEach es X.env:=by rfl):DA Z X (e::es) (D0 ta t):=by
 refine (cK ha hr hs).imp ?_;rintro σ H Q ⟨G,ρ,P,s,e,h,q⟩;refine ⟨G,ρ,_,s,e,h,λa ha v G1 H1 x1 dv=>?_⟩;exact ⟨G1,ρ,_,x1.sub,e.mono x1.gg,ha,λds hd vs G2 H2 x2 aT=>q _ hd _ G2 H2 (x1.trans x2) (.cons (dv.mono x2.gg) aT)⟩
def GX(t:fX):aK:=λρ P=>t ρ λxs=>xs.length≤sizeLine∧P (.tup xs)
def GO(t:fX):aK:=λρ P=>t ρ λxs=>xs.length≤sizeLine∧P (.lst xs)
theorem eJ{x1}(h:DA Z X es t):DE Z X (.Tuple es x1 pos) (GX t):=by
 refine (BO h).imp ?_;rintro σ H Q ⟨G,ρ,P,s,e,h,q⟩;refine ⟨G,ρ,_,s,e,h,?_⟩;rintro ds ⟨hl,hp⟩ vs G1 H1 x1 aT;exact ⟨by rw [aT.length];exact hl,λp iu=>q _ hp _ _ _ (x1.trans (.new x1.sub iu)) (.tup aw (aT.mono (aG (x1.sub.free iu) _)))⟩
theorem bJ(h:DA Z X es t):DE Z X (.List es pos) (GO t):=by
 refine (rZ h).imp ?_;rintro σ H Q ⟨G,ρ,P,s,e,h,q⟩;refine ⟨G,ρ,_,s,e,h,?_⟩;rintro ds ⟨hl,hp⟩ vs G1 H1 x1 aT;exact ⟨by rw [aT.length];exact hl,λp iu=>q _ hp _ _ _ (x1.trans (.new x1.sub iu)) (.lst aw (aT.mono (aG (x1.sub.free iu) _)))⟩
def ou(r:List D→(D→Prop)→Prop)(t:fX):aK:=λρ P=>t ρ λds=>r ds P
theorem mh{r:List D→(D→Prop)→Prop}:∀σ H Q,cB Z (ou r t) σ H Q→vf Z t σ H λvs H1=>ku Z r vs H1 Q:=by
 rintro σ H Q ⟨G,ρ,P,s,e,h,q⟩;exact ⟨G,ρ,_,s,e,h,λds hd vs G1 H1 x1 aT=>⟨G1,ds,P,x1.sub,aT,hd,λd hp v G2 H2 x2 dv=>q d hp v G2 H2 (x1.trans x2) dv⟩⟩
theorem yB{sd:cj}{k:Nat}{f:Addr}{fd:FuncData}{ps:List Str}{x:Str}{p:Pos}(F:FnOk X.prog X.w X.K X.mg X.base bS k f fd ps (aU Z sd))(hr:bH k X.A)(hg:Gl X x)(hm:X.mg x=some (.ref f))(hk:PySem.W.keepIn X.K (.ref f)=true)(hb:Binds X.K fd ps [])
  (ha:DA Z X (e::es) t) (gd:(x==("__debug__":Str))=false:=by decide) (he:starEach (e::es) X.env=(false,eval e X.env)::starEach es X.env:=by rfl) (dJ:(backTo pos (starEach es X.env)).any (·.1)=false:=by rfl):
  DE Z X (.Call (.Name x p) (e::es) [] pos) (ou sd t):=
 (tW F hr hg hm hk hb .nil rW ha gd he dJ).imp λσ H Q h=>by
  have h:=mh σ H Q h;obtain ⟨G,ρ,P,s,e,h,q⟩:=h;exact ⟨G,ρ,P,s,e,h,λds hd vs G1 H1 x1 aT=>by show aU Z sd (vs++ []) H1 Q E0;rw [pZ];exact q ds hd vs G1 H1 x1 aT⟩
theorem aF{id:String}{x:Str}{p:Pos}{r:List D→(D→Prop)→Prop}(hc:cU X (.builtin id) (ku Z r))(hg:Gl X x)(hm:X.mg x=none)(hv:bootBuiltins x=some (.builtin id))(ha:DA Z X (e::es) t)(hn:x≠"__name__":=by decide)(gd:(x==("__debug__":Str))=false:=by decide)
  (he:starEach (e::es) X.env=(false,eval e X.env)::starEach es X.env:=by rfl) (dJ:(backTo pos (starEach es X.env)).any (·.1)=false:=by rfl):
  DE Z X (.Call (.Name x p) (e::es) [] pos) (ou r t):=(jR hc hg hm hv ha hn gd he dJ).imp mh
theorem ki{T:String}{x:Str}{p:Pos}{r:List D→(D→Prop)→Prop}(hc:cU X (.type T) (ku Z r))(hg:Gl X x)(hm:X.mg x=none)(hv:bootBuiltins x=some (.type T))(ha:DA Z X (e::es) t)(hn:x≠"__name__":=by decide)(gd:(x==("__debug__":Str))=false:=by decide)
  (he:starEach (e::es) X.env=(false,eval e X.env)::starEach es X.env:=by rfl) (dJ:(backTo pos (starEach es X.env)).any (·.1)=false:=by rfl):
  DE Z X (.Call (.Name x p) (e::es) [] pos) (ou r t):=(pH hc hg hm hv ha hn gd he dJ).imp mh
end
end L2
namespace L2
open PySem PySem.Spec PyProof.Rows
section
variable {Z:DC} {X:Cx}
def CI:dG:=λx y P=>match x,y with
 | .int i, .int j=>P (.int (i+j))
 | .lst a, .lst b=>a.length+b.length≤sizeLine∧P (.lst (a++b))
 | .tup a, .tup b=>a≠ []∧a.length+b.length≤sizeLine∧b≠ []∧P (.tup (a++b))
 |_,_=>False
def dI(c:Int→Int→Prop)(g:Int→Int→Int):dG:=λx y P=>match x,y with
 | .int i, .int j=>c i j∧P (.int (g i j))
 |_,_=>False
def D4(g:Int→Int→Int):dG:=λx y P=>match x,y with
 | .int i, .int j=>P (.int (g i j))
 |_,_=>False
def GV:dG:=D4 λi j=>i-j
def CM:dG:=λx y P=>match x,y with
 | .int i, .int j=>vT i j∧P (.int (i*j))
 | .lst a, .int k=> -(2^63)≤k∧k<2^63∧a.length*k.toNat≤sizeLine∧P (.lst (List.replicate k.toNat a).flatten)
 |_,_=>False
def GH:dG:=dI Cj λi j=>i / j
def GP:dG:=dI (λ_ j=>0<j) λi j=>i%j
def GS:dG:=dI Ck λi j=>i^j.toNat
theorem rL{f:Value→Value→Sem Value}{c:Int→Int→Prop}{g:Int→Int→Int}(h:OpR X f (rI c λi j=> .int (g i j))):OpR X f (bg Z (dI c g)):=by
 refine h.imp ?_;rintro x y H Q ⟨G,a,b,P,s,da,db,hr,q⟩;unfold dI at hr
 split at hr
 ·exact ⟨_,_,da.ofInt,db.ofInt,hr.1,q _ hr.2 _ G H (.refl s) (.int _)⟩
 ·exact hr.elim
theorem Bn{f:Value→Value→Sem Value}{g:Int→Int→Int}(h:OpR X f (si λi j=> .int (g i j))):OpR X f (bg Z (D4 g)):=by
 refine h.imp ?_;rintro x y H Q ⟨G,a,b,P,s,da,db,hr,q⟩;unfold D4 at hr
 split at hr
 ·exact ⟨_,_,da.ofInt,db.ofInt,q _ hr _ G H (.refl s) (.int _)⟩
 ·exact hr.elim
theorem rR:OpR X (binaryOp .Sub) (bg Z GV):=Bn BE
theorem eN:OpR X (binaryOp .FloorDiv) (bg Z GH):=rL zO
theorem bp:OpR X (binaryOp .Mod) (bg Z GP):=rL BA
theorem rQ:OpR X (binaryOp .Pow) (bg Z GS):=rL BD
theorem bq(e:X.K=Z.K:=by rfl):OpR X (binaryOp .Add) (bg Z CI):=by
 refine (Bx.or (rU.or (zN))).imp ?_;rintro x y H Q ⟨G,a,b,P,s,da,db,hr,q⟩;unfold CI at hr
 split at hr
 ·exact .inl ⟨_,_,da.ofInt,db.ofInt,q _ hr _ G H (.refl s) (.int _)⟩
 ·obtain ⟨a1,FJ,rfl,h1,e1⟩:=da.fo
  obtain ⟨a2,K3,rfl,h2,e2⟩:=db.fo;obtain ⟨hz,hp⟩:=hr;refine .inr (.inl ⟨_,_,_,_,rfl,rfl,s _ _ h1,s _ _ h2,by rw [e1.length,e2.length];exact hz,λp hn=>?_⟩)
  exact q _ hp _ _ _ (.new s hn) (.lst aw ((e1.append e2).mono (aG (s.free hn) _)))
 ·obtain ⟨a1,FJ,rfl,h1,e1⟩:=da.kB
  obtain ⟨a2,K3,rfl,h2,e2⟩:=db.kB;obtain ⟨h0,hz,MJ,hp⟩:=hr;refine .inr (.inr ⟨_,_,_,_,rfl,rfl,dH.of (s _ _ h1),dH.of (s _ _ h2),?_,by rw [e1.length,e2.length];exact hz,?_⟩)
  ·rintro rfl;cases e1;exact h0 rfl
  ·refine ⟨?_,λ_ p hn=>q _ hp _ _ _ (.new s hn) (.tup aw ((e1.append e2).mono (aG (s.free hn) _)))⟩
   rintro rfl;cases e2;exact (MJ rfl).elim
 ·exact hr.elim
theorem ar.rep{G:Hp}{vs:List V}{ds:List D}(h:ar Z G vs ds):∀k:Nat,ar Z G (List.replicate k vs).flatten (List.replicate k ds).flatten
 |0=> .nil
 |k+1=>by rw [nh,nh,pV,pV];exact h.append (ar.rep h k)
theorem fN:OpR X (binaryOp .Mult) (bg Z CM):=by
 refine (BB.or wx).imp ?_;rintro x y H Q ⟨G,a,b,P,s,da,db,hr,q⟩;unfold CM at hr
 split at hr
 ·exact .inl ⟨_,_,da.ofInt,db.ofInt,hr.1,q _ hr.2 _ G H (.refl s) (.int _)⟩
 ·obtain ⟨a1,FJ,rfl,h1,e1⟩:=da.fo
  obtain ⟨h0,h9,hz,hp⟩:=hr;refine .inr ⟨_,_,_,rfl,db.ofInt,s _ _ h1,h0,h9,by rw [e1.length];exact hz,λp hn=>?_⟩
  exact q _ hp _ _ _ (.new s hn) (.lst aw ((e1.rep _).mono (aG (s.free hn) _)))
 ·exact hr.elim
mutual
def D.py:D→Option PyData
 | .aN=>some .none
 | .bl b=>some (.bool b)
 | .int i=>some (.int i)
 | .str x=>some (.str x)
 | .lst l=>(iP l).map PyData.list
 | .tup l=>(iP l).map PyData.tuple
 | .e8 _=>none
 | .rng _ _=>none
 | .obj _=>none
 | .iH _=>none
 | .set _ _=>none
 | .x _=>none
def iP:List D→Option (List PyData)
 | []=>some []
 |d::ds=>(D.py d).bind λa=>(iP ds).map λas=>a::as
end
mutual
theorem Dv.dp{K:PySem.W.Frag}{G:Hp}:∀{v:V}{d:D}{e:PyData},Dv Z G v d→d.py=some e→Dp K G v e
 |_,_,_, .aN,h=>by simp [D.py] at h;subst h;exact .aN
 |_,_,_, .bl b,h=>by simp [D.py] at h;subst h;exact .bl b
 |_,_,_, .int i,h=>by simp [D.py] at h;subst h;exact .int i
 |_,_,_, .str x k,h=>by simp [D.py] at h;subst h;exact .str x k
 |_,_,_, .lst a as,h=>by
  simp [D.py] at h;obtain ⟨l,h1,rfl⟩:=h;exact .lst (bx.of a) (ar.dp as h1)
 |_,_,_, .tup a as,h=>by
  simp [D.py] at h;obtain ⟨l,h1,rfl⟩:=h;exact .tup (dH.of a) (ar.dp as h1)
 |_,_,_, .e8 _ _,h=>by simp [D.py] at h
 |_,_,_, .rng _,h=>by simp [D.py] at h
 |_,_,_, .obj _,h=>by simp [D.py] at h
 |_,_,_, .iH _ _ _ _ _,h=>by simp [D.py] at h
 |_,_,_, .set _,h=>by simp [D.py] at h
 |_,_,_, .x _ _,h=>by simp [D.py] at h
theorem ar.dp{K:PySem.W.Frag}{G:Hp}:∀{vs:List V}{ds:List D}{es:List PyData},ar Z G vs ds→iP ds=some es→cH K G vs es
 |_,_,_, .nil,h=>by simp [iP] at h;subst h;exact .nil
 |_,_,_, .cons (d:=d) (ds:=ds) a as,h=>by
  rw [iP] at h;cases h1:d.py with
  |none=>rw [h1] at h;cases h
  |some x=>
   rw [h1] at h;cases h2:iP ds with
   |none=>rw [h2] at h;cases h
   |some y=>rw [h2] at h;cases h;exact .cons (Dv.dp a h1) (ar.dp as h2)
end
theorem dH.mono{K:PySem.W.Frag}{H H':Hp}{a:Addr}{xs:List V}(s:aJ H H')(h:dH K H a xs):dH K H' a xs:=by
 rcases h with (h| ⟨o,h⟩) |h
 ·exact .inl (.inl (s _ _ h))
 ·exact .inl (.inr ⟨o,s _ _ h⟩)
 ·exact .inr h
mutual
theorem Dp.mono{K:PySem.W.Frag}{G H:Hp}(s:aJ G H):∀{v:V}{d:PyData},Dp K G v d→Dp K H v d
 |_,_, .aN=> .aN
 |_,_, .bl b=> .bl b
 |_,_, .int i=> .int i
 |_,_, .str x h=> .str x h
 |_,_, .lst h a=> .lst (h.mono s) (cH.mono s a)
 |_,_, .tup h a=> .tup (h.mono s) (cH.mono s a)
theorem cH.mono{K:PySem.W.Frag}{G H:Hp}(s:aJ G H):∀{vs:List V}{ds:List PyData},cH K G vs ds→cH K H vs ds
 |_,_, .nil=> .nil
 |_,_, .cons a as=> .cons (Dp.mono s a) (cH.mono s as)
end
def CK(neg:Bool):dG:=λx y P=>∃a b,x.py=some a∧y.py=some b∧a.depth≤64∧P (.bl (if neg then !PyData.eqv a b else PyData.eqv a b))
abbrev rg:dG:=CK false
abbrev w4:dG:=CK true
theorem gZ(hu:X.A.units+64<cLine):OpR X (compareOp .Eq) (bg Z rg):=by
 refine (By hu).imp ?_;rintro x y H Q ⟨G,a,b,P,s,da,db,⟨c,d,h1,h2,h3,hp⟩,q⟩;exact ⟨c,d,(da.dp h1).mono s,(db.dp h2).mono s,h3,q _ hp _ G H (.refl s) (.bl _)⟩
theorem rP(hu:X.A.units+64<cLine):OpR X (compareOp .NotEq) (bg Z w4):=by
 refine (BC hu).imp ?_;rintro x y H Q ⟨G,a,b,P,s,da,db,⟨c,d,h1,h2,h3,hp⟩,q⟩;exact ⟨c,d,(da.dp h1).mono s,(db.dp h2).mono s,h3,q _ hp _ G H (.refl s) (.bl _)⟩
theorem yq{i j:Int}{P:D→Prop}(h:P (.bl (decide (i=j)))):rg (.int i) (.int j) P:=⟨.int i, .int j,rfl,rfl,by simp [PyData.depth],by
 have:PyData.eqv (.int i) (.int j)=decide (i=j):=by
  rw [PyData.eqv]
  by_cases z:i=j<;>simp [z]
 simpa [this] using h⟩
theorem yu{i j:Int}{P:D→Prop}(h:P (.bl (!decide (i=j)))):w4 (.int i) (.int j) P:=⟨.int i, .int j,rfl,rfl,by simp [PyData.depth],by
 have:PyData.eqv (.int i) (.int j)=decide (i=j):=by
  rw [PyData.eqv]
  by_cases z:i=j<;>simp [z]
 simpa [this] using h⟩
def sP(p:Int→Int→Bool):dG:=λx y P=>match x,y with
 | .int i, .int j=>P (.bl (p i j))
 |_,_=>False
theorem oX{f:Value→Value→Sem Value}{p:Int→Int→Bool}(h:OpR X f (si λi j=> .bl (p i j))):OpR X f (bg Z (sP p)):=by
 refine h.imp ?_;rintro x y H Q ⟨G,a,b,P,s,da,db,hr,q⟩;unfold sP at hr
 split at hr
 ·exact ⟨_,_,da.ofInt,db.ofInt,q _ hr _ G H (.refl s) (.bl _)⟩
 ·exact hr.elim
end
end L2
namespace L2
open PySem PySem.Spec PyProof.Rows
section
variable {Z:DC} {X:Cx}
abbrev Mg:dG:=sP λi j=>decide (i<j)
abbrev Mf:dG:=sP λi j=>decide (i≤j)
abbrev Me:dG:=sP λi j=>decide (j<i)
theorem rO:OpR X (compareOp .Lt) (bg Z Mg):=oX Fe
theorem vq:OpR X (compareOp .LtE) (bg Z Mf):=oX Fd
theorem E7:OpR X (compareOp .Gt) (bg Z Me):=oX Fc
def u7:D→Bool
 | .aN=>true
 |_=>false
def yr(neg:Bool):dG:=λx y P=>match y with
 | .aN=>P (.bl (if neg then !u7 x else u7 x))
 |_=>False
theorem qz{G:Hp}{v:V}{d:D}(h:Dv Z G v d):decide (v= .aN)=u7 d:=by cases h<;>rfl
theorem pw:OpR X (compareOp .Is) (bg Z (yr false)):=by
 refine Bz.imp ?_;rintro x y H Q ⟨G,a,b,P,s,da,db,hr,q⟩;cases db<;>first|exact hr.elim|skip
 exact ⟨rfl,by rw [qz da];exact q _ hr _ G H (.refl s) (.bl _)⟩
theorem qJ:OpR X (compareOp .IsNot) (bg Z (yr true)):=by
 refine zP.imp ?_;rintro x y H Q ⟨G,a,b,P,s,da,db,hr,q⟩;cases db<;>first|exact hr.elim|skip
 exact ⟨rfl,by rw [qz da];exact q _ hr _ G H (.refl s) (.bl _)⟩
def bU:D→Bool
 | .aN=>true
 | .bl _=>true
 | .int _=>true
 | .str _=>true
 |_=>false
def fC:D→D→Bool
 | .aN, .aN=>true
 | .bl a, .bl b=>a==b
 | .bl a, .int b=>(if a then 1 else 0)==b
 | .int a, .bl b=>a==(if b then 1 else 0)
 | .int a, .int b=>a==b
 | .str a, .str b=>a==b
 |_,_=>false
def inD(x:D)(l:List D):Bool:=l.any λy=>fC y x
theorem kR{G:Hp}{v:V}{d:D}(h:Dv Z G v d):eC v=bU d:=by cases h<;>rfl
theorem gM{G:Hp}:∀{vs:List V}{ds:List D},ar Z G vs ds→vs.all eC=ds.all bU
 |_,_, .nil=>rfl
 |_,_, .cons a as=>by rw [List.all_cons,List.all_cons,kR a,gM as]
theorem rB{G:Hp}{v u:V}{d e:D}(h:Dv Z G v d)(k:Dv Z G u e):oH v u=fC d e:=by cases h<;>cases k<;>rfl
theorem u4{G:Hp}{v:V}{d:D}(h:Dv Z G v d):∀{vs:List V}{ds:List D},ar Z G vs ds→Bd v vs=inD d ds
 |_,_, .nil=>rfl
 |_,_, .cons a as=>by
  unfold Bd inD;rw [List.any_cons,List.any_cons,rB a h];exact congrArg _ (u4 h as)
def AN(neg:Bool):dG:=λx y P=>match y with
 | .lst l=>bU x=true∧l.all bU=true∧P (.bl (if neg then !inD x l else inD x l))
 | .tup l=>bU x=true∧l.all bU=true∧P (.bl (if neg then !inD x l else inD x l))
 |_=>False
theorem Ac{neg:Bool}:∀x y H Q,bg Z (AN neg) x y H Q→Fq X.K neg x y H Q:=by
 rintro x y H Q ⟨G,a,b,P,s,da,db,hr,q⟩;cases db<;>first|exact hr.elim|skip
 ·rename_i p xs ds h e
  obtain ⟨h1,h2,hp⟩:=hr;refine ⟨p,xs,rfl, .inl (bx.of (s _ _ h)),by rw [kR da];exact h1,by rw [gM e];exact h2,?_⟩
  rw [u4 da e];exact q _ hp _ G H (.refl s) (.bl _)
 ·rename_i p xs ds h e
  obtain ⟨h1,h2,hp⟩:=hr;refine ⟨p,xs,rfl, .inr (dH.of (s _ _ h)),by rw [kR da];exact h1,by rw [gM e];exact h2,?_⟩
  rw [u4 da e];exact q _ hp _ G H (.refl s) (.bl _)
theorem rN:OpR X (compareOp .In) (bg Z (AN false)):=vx.imp Ac
theorem jQ:OpR X (compareOp .NotIn) (bg Z (AN true)):=qf.imp Ac
def GN:dG:=λx y P=>match x,y with
 | .lst l, .int i=>∃d,cV l i=some d∧P d
 | .tup l, .int i=>∃d,cV l i=some d∧P d
 | .e8 l, .int i=>∃n,cV l i=some n∧P (.int n)
 |_,_=>False
theorem nO{G:Hp}{vs:List V}{ds:List D}{i:Int}{d:D}(h:ar Z G vs ds)(e:cV ds i=some d):∃v,cV vs i=some v∧Dv Z G v d:=by
 unfold cV at e ⊢;rw [h.length];cases z:dZ ds.length i with
 |none=>rw [z] at e;cases e
 |some j=>rw [z] at e;exact h.get e
theorem yf{α β:Type}(f:α→β)(l:List α)(i:Int):cV (l.map f) i=(cV l i).map f:=by
 unfold cV;rw [aV];cases dZ l.length i with
 |none=>rfl
 |some j=>show (l.map f)[j]? =_;rw [cT];rfl
variable {a b c e:Expr} {ta tb tc te:aK} {pos:Pos}
theorem aS(ha:DE Z X a ta)(hb:DE Z X b tb)(eK:X.K=Z.K:=by rfl)(hs:jh b:=by exact λ_ _=>rfl):DE Z X (.Subscript a b pos) (w9 GN ta tb):=by
 refine (rY (kX.or Bf) ha hb hs).imp λσ H Q h=>?_;obtain ⟨G,ρ,P,s,e,h,q⟩:=rJ σ H Q h;refine ⟨G,ρ,P,s,e,h,λd hd v G1 H1 x1 dv=>?_⟩;obtain ⟨G',aE,P',s',e',h',q'⟩:=q d hd v G1 H1 x1 dv;refine ⟨G',aE,P',s',e',h',λd2 hd2 v2 G2 H2 x2 rk=>?_⟩;obtain ⟨G,a,b,P,s,da,db,hr,q⟩:=q' d2 hd2 v2 G2 H2 x2 rk;unfold GN at hr
 split at hr
 ·obtain ⟨d,h1,hp⟩:=hr
  obtain ⟨_,_,rfl,h,e⟩:=da.fo;obtain ⟨v,hv,dv⟩:=nO e h1;exact .inl ⟨_,_,_,v,rfl,db.ofInt,bx.of (s _ _ h),hv,q _ hp _ G _ (.refl s) dv⟩
 ·obtain ⟨d,h1,hp⟩:=hr
  obtain ⟨_,_,rfl,h,e⟩:=da.kB;obtain ⟨v,hv,dv⟩:=nO e h1;exact .inr ⟨_,_,_,v,rfl,db.ofInt,dH.of (s _ _ h),hv,q _ hp _ G _ (.refl s) dv⟩
 rotate_left
 ·exact hr.elim
 ·obtain ⟨d,h1,hp⟩:=hr
  obtain ⟨_,rfl,h,_⟩:=da.zH;refine .inl ⟨_,_,_, .int d,rfl,db.ofInt,by rw [eK];exact h.mono s,by rw [yf,h1];rfl,q _ hp _ G _ (.refl s) (.int d)⟩
def cutD{α:Type}(xs:List α)(lo hi:Option Int):List α:=(xs.drop (HT.bo xs.length 0 lo)).take (HT.bo xs.length xs.length hi-HT.bo xs.length 0 lo)
theorem vY{G:Hp}{vs:List V}{ds:List D}(h:ar Z G vs ds)(lo hi:Option Int):ar Z G (mM vs lo hi) (cutD ds lo hi):=by
 unfold mM cutD;rw [h.length];exact (h.drop _).take _
theorem wZ{α β:Type}(f:α→β)(l:List α)(lo hi:Option Int):cutD (l.map f) lo hi=(cutD l lo hi).map f:=by
 unfold cutD;rw [aV,qV,List.map_drop]
abbrev uz:=DN→(Option Int→Prop)→Prop
def yx:uz:=λ_ P=>P none
def D8(t:aK):uz:=λρ P=>t ρ λd=>match d with
 | .int i=>P (some i)
 |_=>False
def E4(Z:DC)(t:uz):TO:=λσ H Q=>∃(G:Hp)(ρ:DN)(P:Option Int→Prop),aJ G H∧b0 Z G σ ρ∧t ρ P∧∀o,P o→∀G' H',Ext G H G' H'→Q o H'
def DO(Z:DC)(X:Cx)(e:Option Expr)(t:uz):Prop:=PO X e (E4 Z t)
theorem PO.imp{e:Option Expr}{t t':TO}(h:PO X e t)(f:∀σ H Q,t' σ H Q→t σ H Q):PO X e t':=λpins s σ H Q I q=>h pins s σ H Q I (f _ _ _ q)
theorem fZ:DO Z X none yx:=z0.imp λσ H Q ⟨G,ρ,P,s,e,p,q⟩=>q _ p G H (.refl s)
theorem f7(h:DE Z X e te):DO Z X (some e) (D8 te):=by
 refine (z1 h).imp ?_;rintro σ H Q ⟨G,ρ,P,s,e,h,q⟩;refine ⟨G,ρ,_,s,e,h,λd hd v G1 H1 x1 dv=>?_⟩;cases dv<;>first|exact hd.elim|skip
 exact ⟨_,rfl,q _ hd G1 H1 x1⟩
def Mi(te:aK)(tl th:uz):aK:=λρ P=>te ρ λx=>tl ρ λlo=>th ρ λhi=>match x with
 | .lst l=>P (.lst (cutD l lo hi))
 | .tup l=>¬(HT.bo l.length 0 lo=0∧HT.bo l.length l.length hi=l.length)∧P (.tup (cutD l lo hi))
 | .e8 l=>P (.lst ((cutD l lo hi).map D.int))
 |_=>False
variable {lo hi:Option Expr} {tl th:uz} {p2:Pos}
theorem eB(he:DE Z X e te)(hl:DO Z X lo tl)(hu:DO Z X hi th)(eK:X.K=Z.K:=by rfl):DE Z X (.Subscript e (.Slice lo hi none p2) pos) (Mi te tl th):=by
 refine (xG (Ak.or B3) he hl hu).imp ?_;rintro σ H Q ⟨G,ρ,P,s,en,h,q⟩;refine ⟨G,ρ,_,s,en,h,λd hd v G1 H1 x1 dv=>?_⟩;refine ⟨G1,ρ,_,x1.sub,en.mono x1.gg,hd,λl hl G2 H2 x2=>?_⟩;refine ⟨G2,ρ,_,x2.sub,(en.mono x1.gg).mono x2.gg,hl,λu hu G3 H3 x3=>?_⟩;have x:=(x1.trans x2).trans x3;have dv:=(dv.mono x2.gg).mono x3.gg;cases dv<;>first|exact hu.elim|skip
 ·rename_i h e
  exact .inl ⟨_,_,rfl,bx.of (x3.sub _ _ h),λp hn=>q _ hu _ _ _ (x.trans (.new x3.sub hn)) (.lst aw ((vY e l u).mono (aG (x3.sub.free hn) _)))⟩
 ·rename_i h e
  refine .inr ⟨_,_,rfl,dH.of (x3.sub _ _ h),by rw [e.length];exact hu.1,λp hn=>q _ hu.2 _ _ _ (x.trans (.new x3.sub hn)) (.tup aw ((vY e l u).mono (aG (x3.sub.free hn) _)))⟩
 ·rename_i h _
  refine .inl ⟨_,_,rfl,by rw [eK];exact h.mono x3.sub,λp hn=>q _ hu _ _ _ (x.trans (.new x3.sub hn)) (.lst aw ?_)⟩
  show ar Z _ (cutD _ l u) _;rw [wZ];exact .ints _
def Cp:cj:=λds P=>match ds with
 | [.lst l]=>P (.int l.length)
 | [.tup l]=>P (.int l.length)
 | [.e8 l]=>P (.int l.length)
 |_=>False
theorem ba(eK:X.K=Z.K:=by rfl):cU X (.builtin "len") (ku Z Cp):=by
 refine p9.imp ?_;rintro xs H Q ⟨G,ds,P,s,dv,hr,q⟩;unfold Cp at hr
 split at hr
 ·obtain ⟨_,rfl,a⟩:=dv.ofOne
  obtain ⟨_,_,rfl,h,e⟩:=a.fo;exact ⟨_,_,rfl, .inl (bx.of (s _ _ h)),by rw [e.length];exact q _ hr _ G H (.refl s) (.int _)⟩
 ·obtain ⟨_,rfl,a⟩:=dv.ofOne
  obtain ⟨_,_,rfl,h,e⟩:=a.kB;exact ⟨_,_,rfl, .inr (dH.of (s _ _ h)),by rw [e.length];exact q _ hr _ G H (.refl s) (.int _)⟩
 ·obtain ⟨_,rfl,a⟩:=dv.ofOne
  obtain ⟨_,rfl,h,_⟩:=a.zH;exact ⟨_,_,rfl, .inl (by rw [eK];exact h.mono s),by rw [aV];exact q _ hr _ G H (.refl s) (.int _)⟩
 ·exact hr.elim
def yh:cj:=λds P=>match ds with
 | [.lst l]=>P (.lst l)
 | [.tup l]=>P (.lst l)
 |_=>False
theorem om:cU X (.type "list") (ku Z yh):=by
 refine j0.imp ?_;rintro xs H Q ⟨G,ds,P,s,dv,hr,q⟩;unfold yh at hr
 split at hr
 ·obtain ⟨_,rfl,a⟩:=dv.ofOne
  obtain ⟨_,_,rfl,h,e⟩:=a.fo;exact ⟨_,_,rfl, .inl (bx.of (s _ _ h)),λp hn=>q _ hr _ _ _ (.new s hn) (.lst aw (e.mono (aG (s.free hn) _)))⟩
 ·obtain ⟨_,rfl,a⟩:=dv.ofOne
  obtain ⟨_,_,rfl,h,e⟩:=a.kB;exact ⟨_,_,rfl, .inr (dH.of (s _ _ h)),λp hn=>q _ hr _ _ _ (.new s hn) (.lst aw (e.mono (aG (s.free hn) _)))⟩
 ·exact hr.elim
def QT:cj:=λds P=>match ds with
 | [.int i]=>P (.int i)
 | [.bl b]=>P (.int (if b then 1 else 0))
 |_=>False
def IA:String→D→Bool
 |"int", .int _=>true
 |"int", .bl _=>true
 |"bool", .bl _=>true
 |"list", .lst _=>true
 |"tuple", .tup _=>true
 |_,_=>false
def Fb(n:String):Bool:=n=="int"||n=="bool"||n=="list"||n=="tuple"
def C9:D→Bool
 | .aN=>true
 | .bl _=>true
 | .int _=>true
 | .str _=>true
 | .lst _=>true
 | .tup _=>true
 |_=>false
def GL(n:String)(t:aK):aK:=λρ P=>t ρ λd=>C9 d=true∧P (.bl (IA n d))
theorem Bk{K:PySem.W.Frag}{H:Hp}{v:V}{d:D}{n:String}(hn:Fb n=true)(hd:C9 d=true)(h:Dv Z H v d):∃t,gH K H v t∧PySem.W.kitOne K t (.type n)=some (IA n d):=by
 unfold Fb at hn;rw [Bool.or_eq_true,Bool.or_eq_true,Bool.or_eq_true,beq_iff_eq,beq_iff_eq,beq_iff_eq,beq_iff_eq] at hn;cases h with
 |aN=>refine ⟨_, .aN,?_⟩;rcases hn with ((rfl|rfl) |rfl) |rfl<;>kernel_rfl
 |bl b=>refine ⟨_, .bl b,?_⟩;rcases hn with ((rfl|rfl) |rfl) |rfl<;>kernel_rfl
 |int b=>refine ⟨_, .int b,?_⟩;rcases hn with ((rfl|rfl) |rfl) |rfl<;>kernel_rfl
 |str b=>refine ⟨_, .str b,?_⟩;rcases hn with ((rfl|rfl) |rfl) |rfl<;>kernel_rfl
 |lst h a=>refine ⟨_, .lst h,?_⟩;rcases hn with ((rfl|rfl) |rfl) |rfl<;>kernel_rfl
 |tup h a=>refine ⟨_, .tup h,?_⟩;rcases hn with ((rfl|rfl) |rfl) |rfl<;>kernel_rfl
 |_=>cases hd
end
section
variable {Z:DC} {X:Cx} {a b c e:Expr} {ta tb tc te:aK} {pos:Pos}
theorem kM(n:String){x:Str}{p p':Pos}(ha:DE Z X a ta)(hg:Gl X "isinstance")(hm:X.mg "isinstance"=none)(M1:Gl X x)(uY:X.mg x=none)(hv:bootBuiltins x=some (.type n))(ok:Fb n=true:=by decide)
  (hn:x≠"__name__":=by decide) (hd:(x==("__debug__":Str))=false:=by decide) (hs:starEach [a, .Name x p'] X.env=(false,eval a X.env)::starEach [.Name x p'] X.env:=by rfl)
  (dJ:(backTo pos (starEach [.Name x p'] X.env)).any (·.1)=false:=by rfl) (tF:starEach [.Name x p'] X.env=(false,eval (.Name x p') X.env)::starEach [] X.env:=by rfl):
  DE Z X (.Call (.Name "isinstance" p) [a, .Name x p'] [] pos) (GL n ta):=by
 have hb:PE X (.Name x p') (tC (.ty n)):=zQ M1 uY hv rfl hn hd;refine (jR rb hg hm (by decide+kernel) (cK ha (cK hb eO tF) hs) (by decide) (by decide) hs dJ).imp ?_
 rintro σ H Q ⟨G,ρ,P,s,e,h,q⟩;refine ⟨G,ρ,_,s,e,h,?_⟩;rintro d ⟨hk,hp⟩ v G1 H1 x1 dv;obtain ⟨t,ht,iq⟩:=Bk (K:=X.K) (H:=H1) ok hk (dv.mono x1.sub);exact ⟨v,n,t,_,rfl,ht,iq,q _ hp _ G1 H1 x1 (.bl _)⟩
def oZ(Z:DC)(g:cW):TG:=λv σ H Q=>∃(G:Hp)(ρ:DN)(d:D)(P:DN→Prop),aJ G H∧b0 Z G σ ρ∧Dv Z G v d∧g d ρ P∧∀aE,P aE→∀aD,b0 Z G aD aE→Q aD H
def DG(Z:DC)(X:Cx)(e:Expr)(g:cW):Prop:=PG X e (oZ Z g)
theorem PG.imp{e:Expr}{t t':TG}(h:PG X e t)(f:∀v σ H Q,t' v σ H Q→t v σ H Q):PG X e t':=λpins s σ H v u Q I r q=>h pins s σ H v u Q I r (f _ _ _ _ q)
def kO(i:Nat):cW:=λd ρ P=>P (ρ.set i (some d))
theorem b5(i:Nat){x:Str}(hN:X.N.Nodup)(hi:X.N[i]? =some x:=by rfl)(hx:Loc X.env.scope x:=by exact Or.inl rfl)(hf:X.fn x=true∨X.env.scope.names.lookup x=some .local:=by first|exact .inl rfl|exact .inr rfl|assumption):DG Z X (.Name x pos) (kO i):=
 (tX hN hi hx hf).imp λv σ H Q ⟨G,ρ,d,P,s,e,dv,h,q⟩=>q _ h _ (e.set dv)
abbrev mI:=List D→DN→(DN→Prop)→Prop
theorem sA.imp{es:List Expr}{t t':qY}(h:sA X es t)(f:∀v σ H Q,t' v σ H Q→t v σ H Q):sA X es t':=λpins s σ H v u Q I r q=>h pins s σ H v u Q I r (f _ _ _ _ q)
def Ef:mI:=λds ρ P=>ds= []∧P ρ
def AU(g:cW)(gs:mI):mI:=λds ρ P=>match ds with
 |d::r=>g d ρ λaE=>gs r aE P
 | []=>False
def Eg(n:Nat)(gs:mI):cW:=λd ρ P=>match d with
 | .tup l=>l.length=n∧gs l ρ P
 |_=>False
def nZ(Z:DC)(G:Hp)(J:It)(ds:List D):Prop:=∀G2 H2,aJ G G2→aJ G2 H2→∀i:Nat,(i<ds.length→J.go i H2)∧(ds.length≤i→J.stop i H2)∧
 ∀x H',i<ds.length→J.yld i H2 x H'→∃G3 d,Ext G2 H2 G3 H'∧ds[i]? =some d∧Dv Z G3 x d
def rK(Z:DC)(wi:gU):TI:=λσ H R=>∃(G:Hp)(ρ:DN)(P:List D→Prop),aJ G H∧b0 Z G σ ρ∧wi ρ P∧∀ds,P ds→∀J G' H',Ext G H G' H'→nZ Z G' J ds→R J H'
def DI(Z:DC)(X:Cx)(tg e:Expr)(wi:gU):Prop:=PI X tg e (rK Z wi)
theorem PI.imp{tg e:Expr}{t t':TI}(h:PI X tg e t)(f:∀σ H Q,t' σ H Q→t σ H Q):PI X tg e t':=λpins s σ H Q I q=>h pins s σ H Q I (f _ _ _ q)
def Eh(t:aK):gU:=λρ P=>t ρ λd=>match d with
 | .lst l=>P l
 |_=>False
theorem tK{K:PySem.W.Frag}{G:Hp}{a:Addr}{xs:List V}{ds:List D}(h:G a=some (.lst xs))(e:ar Z G xs ds):nZ Z G (Dq K a) ds:=by
 intro G2 H2 s1 s2 i;have h2:=bx.of (K:=K) (s2 _ _ (s1 _ _ h));have l:=e.length;refine ⟨λhi=>⟨xs,xs[i],h2,eG (by omega)⟩,λhi=>⟨xs,h2,by omega⟩,?_⟩
 rintro x H' hi ⟨rfl,hx⟩;obtain ⟨d,hd,dv⟩:=e.tw (hx _ h2);exact ⟨G2,d, .refl s2,hd,dv.mono s1⟩
theorem bD{tg:Expr}(h:DE Z X e te):DI Z X tg e (Eh te):=by
 refine (tZ h).imp ?_;rintro σ H Q ⟨G,ρ,P,s,en,h,q⟩;refine ⟨G,ρ,_,s,en,h,λd hd v G1 H1 x1 dv=>?_⟩;cases dv<;>first|exact hd.elim|skip
 rename_i ha e
 exact ⟨_,rfl,⟨_,bx.of (x1.sub _ _ ha)⟩,q _ hd _ G1 H1 x1 (tK ha e)⟩
def di(lo:Int)(n:Nat):List D:=(List.range n).map λ(k:Nat)=>D.int (lo+(k:Int))
theorem mV{lo:Int}{n i:Nat}(h:i<n):(di lo n)[i]? =some (.int (lo+i)):=by
 unfold di;rw [cT,uw h];rfl
theorem qA{G:Hp}(lo:Int)(n:Nat):nZ Z G (AI lo n) (di lo n):=by
 intro G2 H2 s1 s2 i;have l:(di lo n).length=n:=by unfold di;simp
 rw [l];refine ⟨λhi=>hi,λhi=>hi,?_⟩;rintro x H' hi ⟨rfl,rfl⟩;exact ⟨G2,_, .refl s2,mV hi, .int _⟩
def CO(t:fX):gU:=λρ P=>t ρ λds=>match ds with
 | [.int j]=>(-(2^62)≤j∧j<2^62)∧P (di 0 j.toNat)
 |_=>False
variable {t:fX}
theorem oB{tg:Expr}{p:Pos}(hg:Gl X "range")(hm:X.mg "range"=none)(ha:DA Z X [a] t)(hs:starEach [a] X.env= [(false,eval a X.env)]:=by rfl):DI Z X tg (.Call (.Name "range" p) [a] [] pos) (CO t):=by
 refine (pI hg hm ha hs).imp ?_;rintro σ H Q ⟨G,ρ,P,s,en,h,q⟩;refine ⟨G,ρ,_,s,en,h,λds hd vs G1 H1 x1 dv=>?_⟩
 split at hd
 ·obtain ⟨_,rfl,a⟩:=dv.ofOne
  exact ⟨_,by rw [a.ofInt],hd.1.1,hd.1.2,q _ hd.2 _ G1 H1 x1 (qA 0 _)⟩
 ·exact hd.elim
def jn(l:List D):List D:=l.mapIdx λi x=> .tup [.int (i:Int),x]
def AV(t:fX):gU:=λρ P=>t ρ λds=>match ds with
 | [.lst l]=>P (jn l)
 |_=>False
theorem zt{K:PySem.W.Frag}{G:Hp}{a:Addr}{xs:List V}{ds:List D}(h:G a=some (.lst xs))(e:ar Z G xs ds):nZ Z G (Dm K a) (jn ds):=by
 intro G2 H2 s1 s2 i;have h2:=bx.of (K:=K) (s2 _ _ (s1 _ _ h));have l:=e.length;rw [show (jn ds).length=ds.length by unfold jn;simp]
 refine ⟨λhi=>⟨xs,xs[i],h2,eG (by omega)⟩,λhi=>⟨xs,h2,by omega⟩,?_⟩
 rintro x H' hi ⟨t,y,rfl,ht,rfl,hx⟩;obtain ⟨d,hd,dv⟩:=e.tw (hx _ h2);refine ⟨_,_, .new s2 ht,by unfold jn;rw [List.getElem?_mapIdx,hd];rfl,?_⟩
 exact .tup aw (.cons (.int _) (.cons ((dv.mono s1).mono (aG (s2.free ht) _)) .nil))
theorem ic{p:Pos}{es:List Expr}{k1}{tp:Pos}(hg:Gl X "enumerate")(hm:X.mg "enumerate"=none)(ha:DA Z X [a] t)(hs:starEach [a] X.env= [(false,eval a X.env)]:=by rfl):DI Z X (.Tuple es k1 tp) (.Call (.Name "enumerate" p) [a] [] pos) (AV t):=by
 refine (zY hg hm ha hs).imp ?_;rintro σ H Q ⟨G,ρ,P,s,en,h,q⟩;refine ⟨G,ρ,_,s,en,h,λds hd vs G1 H1 x1 dv=>?_⟩
 split at hd
 ·obtain ⟨_,rfl,a⟩:=dv.ofOne
  obtain ⟨_,_,rfl,h,e⟩:=a.fo;exact ⟨_,rfl,⟨_,x1.sub _ _ h⟩,q _ hd _ G1 H1 x1 (zt h e)⟩
 ·exact hd.elim
def qN(src:List (Option Nat))(ρ:DN):DN:=src.map λo=>o.bind λi=>(ρ[i]?).bind id
theorem b0.src{G:Hp}{σ:St}{ρ:DN}(e:b0 Z G σ ρ)(src:List (Option Nat)):b0 Z G (j7 src σ) (qN src ρ):=by
 refine ⟨by unfold j7 qN;simp,λi d h=>?_⟩
 unfold qN at h;unfold j7;rw [cT] at h ⊢;cases k:src[i]? with
 |none=>rw [k] at h;cases h
 |some o=>
  rw [k] at h;cases o with
  |none=>cases h
  |some j=>
   have h':(ρ[j]?).bind id=some d:=Option.some.inj h;cases m:ρ[j]? with
   |none=>rw [m] at h';cases h'
   |some z=>
    rw [m] at h';have h2:z=some d:=h';subst h2;obtain ⟨v,hv,dv⟩:=e.at_ j d m;exact ⟨v,by show some ((σ[j]?).bind id)=_;rw [hv];rfl,dv⟩
def kY(g:cW)(tt:bY)(te:aK):List D→DN→List D→(DN→List D→Prop)→Prop
 | [],ρ,acc,N=>N ρ acc
 |x::xs,ρ,acc,N=>g x ρ λbZ=>tt bZ λb=>if b=true then te bZ λd=>acc.length<sizeLine∧kY g tt te xs bZ (acc++ [d]) N else kY g tt te xs bZ acc N
def D5(wi:gU)(g:cW)(tt:bY)(te:aK)(src:List (Option Nat)):aK:=λρ P=>wi ρ λds=>kY g tt te ds (qN src ρ) [] λ_ out=>P (.lst out)
def yA:bY:=λ_ P=>P true
def uA(Z:DC)(X:Cx)(ifs:List Expr)(t:bY):Prop:=p8 X ifs (liftT Z t)
theorem p8.imp{ifs:List Expr}{t t':TT}(h:p8 X ifs t)(f:∀σ H Q,t' σ H Q→t σ H Q):p8 X ifs t':=λpins s σ H Q I q=>h pins s σ H Q I (f _ _ _ q)
theorem eW:uA Z X [] yA:=t7.imp λσ H Q ⟨G,ρ,P,s,e,p,q⟩=>q _ p G H (.refl s)
theorem kQ{tA:bY}(h:DT Z X c tA):uA Z X [c] tA:=z6 h
def CS(Z:DC)(G1 H1:Hp)(Ad:Addr)(ρ:DN)(acc:List D)(σ:St)(H:Hp):Prop:=
 ∃(G:Hp)(ys:List V),aJ G1 G∧aJ G H∧aJ H1 H∧(∀b,H1 b≠none→G1 b=none→G b=none)∧G Ad=none∧H Ad=some (.lst ys)∧ar Z G ys acc∧b0 Z G σ ρ
theorem e9{H H':Hp}(s:aJ H H'){b:Addr}(h:H b≠none):H' b≠none:=λz=>by
 cases e:H b with
 |none=>exact h e
 |some o=>rw [s b o e] at z;cases z
theorem oE{α:Type}{l:List α}{i:Nat}{x:α}(h:l[i]? =some x):l.drop i=x::l.drop (i+1):=by
 obtain ⟨hi,e⟩:=dU.mp h;rw [AF hi,e]
theorem qF{G1 H1:Hp}{Ad:Addr}{J:It}{ds:List D}{g:cW}{tt:bY}{te:aK}{N:DN→List D→Prop}(hA:H1 Ad=none)(G0:Hp)(it:nZ Z G0 J ds)(i:Nat)(ρ:DN)(acc:List D)(σ:St)(H:Hp)
  (c:CS Z G1 H1 Ad ρ acc σ H) (hG:∀G,aJ G1 G→aJ G0 G) (hi:i<ds.length) (h:kY g tt te (ds.drop i) ρ acc N):
  J.go i H∧∀x H3,J.yld i H x H3→oZ Z g x σ H3 λje H4=>liftT Z tt je H4 λb H5=>
   if b=true then cB Z te je H5 λv H6=>∃ys,H6 Ad=some (.lst ys)∧ys.length<sizeLine∧(∃aE gI,CS Z G1 H1 Ad aE gI je (upd H6 Ad (.lst (ys++ [v])))∧kY g tt te (ds.drop (i+1)) aE gI N)
   else ∃aE gI,CS Z G1 H1 Ad aE gI je H5∧kY g tt te (ds.drop (i+1)) aE gI N:=by
 obtain ⟨G2,ys,s1,s2,s3,off,gA,oN,aT,en⟩:=c;obtain ⟨go,_,yld⟩:=it G2 H (hG _ s1) s2 i;refine ⟨go hi,λx H3 y=>?_⟩;obtain ⟨G3,d,x3,hd,dv⟩:=yld x H3 hi y;rw [oE hd] at h;refine ⟨G3,ρ,d,_,x3.sub,en.mono x3.gg,dv,h,λbZ h1 je uL=>?_⟩;refine ⟨G3,bZ,_,x3.sub,uL,h1,λb hb G5 H5 x5=>?_⟩;have uk:=x3.trans x5;have zK:∀{G Dk:Hp},Ext G2 H G Dk→G Ad=none:=λx=>x.off Ad (by rw [oN];exact λz=>nomatch z) gA
 have C8:∀{G Dk:Hp},Ext G2 H G Dk→∀b,H1 b≠none→G1 b=none→G b=none:=λx b h1 h2=>x.off b (e9 s3 h1) (off b h1 h2);cases b with
 |false=>
  refine cD ⟨bZ,acc,⟨G5,ys,s1.trans uk.gg,uk.sub,s3.trans uk.hh,C8 uk,zK uk,uk.hh _ _ oN,aT.mono uk.gg,uL.mono x5.gg⟩,?_⟩;simpa using hb
 |true=>
  refine b6 ⟨G5,bZ,_,x5.sub,uL.mono x5.gg,(by simpa using hb),λd' jo v G6 H6 x6 Ek=>?_⟩
  have x:=uk.trans x6;refine ⟨ys,x.hh _ _ oN,by rw [aT.length];exact jo.1,bZ,_,⟨G6,ys++ [v],s1.trans x.gg,λb o e=>?_,λb o e=>?_,C8 x,zK x,aw,(aT.mono x.gg).snoc Ek,(uL.mono x5.gg).mono x6.gg⟩,jo.2⟩
  ·rw [ay (aM e (zK x))];exact x.sub _ _ e
  ·rw [ay (aM e hA)];exact (s3.trans x.hh) _ _ e
theorem CS.done{G H G1 H1 H2:Hp}{Ad:Addr}{ρ:DN}{acc:List D}{σ:St}(c:CS Z G1 H1 Ad ρ acc σ H2)(x1:Ext G H G1 H1)(hA:H1 Ad=none):∃G',Ext G H G' H2∧Dv Z G' (.ref Ad) (.lst acc):=by
 obtain ⟨G2,ys,s1,s2,s3,off,gA,oN,aT,en⟩:=c;refine ⟨upd G2 Ad (.lst ys),⟨(x1.gg.trans s1).trans (aG gA _),λb o e=>?_,x1.hh.trans s3,λb hb hg=>?_⟩, .lst aw (aT.mono (aG gA _))⟩
 ·by_cases z:b=Ad
  ·subst z;rw [aw] at e;cases e;exact oN
  ·rw [ay z] at e;exact s2 _ _ e
 ·have h1:=e9 x1.hh hb
  rw [ay (λz=>h1 (by rw [z];exact hA))]
  exact off b h1 (x1.off b hb hg)
theorem CS.begin{G1 H1:Hp}{Ad:Addr}{ρ:DN}{σ:St}(s:aJ G1 H1)(hA:H1 Ad=none)(en:b0 Z G1 σ ρ):CS Z G1 H1 Ad ρ [] σ (upd H1 Ad (.lst [])):=
 ⟨G1,[], .refl _,λb o e=>by rw [ay (aM e (s.free hA))];exact s _ _ e,aG hA _,λ_ _ h=>h,s.free hA,aw, .nil,en⟩
variable {tg iter elt:Expr} {ifs:List Expr} {scope:Scope} {NC:List Str} {src:List (Option Nat)} {wi:gU} {g:cW} {tt:bY}
theorem wo:∀σ H Q,cB Z (D5 wi g tt te src) σ H Q→Aw (rK Z wi) (oZ Z g) (liftT Z tt) (cB Z te) src σ H Q:=by
 rintro σ H Q ⟨G,ρ,P,s,en,h,q⟩;refine ⟨G,ρ,_,s,en,h,λds hd J G1 H1 x1 it Ad hA=>?_⟩;refine ⟨λi m gE H2=>m=ds.length-i∧i≤ds.length∧∃gD acc,CS Z G1 H1 Ad gD acc gE H2∧kY g tt te (ds.drop i) gD acc λ_ out=>P (.lst out),⟨_,rfl,gB _,_,[], .begin x1.sub hA ((en.mono x1.gg).src src),hd⟩,?_⟩;rintro i m gE H2 ⟨rfl,hi,gD,acc,c,hl⟩
 by_cases eX:i<ds.length
 ·obtain ⟨go,turn⟩:=qF hA G1 it i gD acc gE H2 c (λ_ s=>s) eX hl
  exact .inr ⟨go,_,λaD H' n=>⟨ds.length-(i+1),by omega,rfl,eX,n⟩,turn⟩
 ·have e:ds.drop i= []:=wN (by omega)
  rw [e] at hl;obtain ⟨G',x,dv⟩:=c.done x1 hA;obtain ⟨G2,ys,s1,s2,_⟩:=c;exact .inl ⟨(it G2 H2 s1 s2 i).2.1 (by omega),q _ hl _ G' H2 x dv⟩
theorem oA(hc:X.calm=true)(c:bE X scope)(dD:b4 scope X.N src NC)(hi:DI Z X tg iter wi)
  (hg:∀ex s H,DG Z (dq X scope NC ex s H) tg g) (ht:∀ex s H,uA Z (dq X scope NC ex s H) ifs tt) (he:∀ex s H,DE Z (dq X scope NC ex s H) elt te)
  (hs:∀x,foldedSetIterable iter X.env x=pure x:=by intro _;rfl):DE Z X (.ListComp elt [⟨tg,iter,ifs,0⟩] scope pos) (D5 wi g tt te src):=(zU hc c dD hi hg ht he hs).imp wo
variable {t0 i0 t1 i1:Expr} {f0 f1:List Expr} {K2:gU} {g1:cW} {K1:bY}
end
inductive bP (R:V→D→List Addr→Prop):List V→List D→List Addr→Prop
 |nil:bP R [] [] []
 |cons {v:V} {vs:List V} {d:D} {ds:List D} {f fs:List Addr}:R v d f→bP R vs ds fs→bP R (v::vs) (d::ds) (f++fs)
def IB:D→Bool
 | .lst _=>true
 |_=>false
def Own(Z:DC)(G H:Hp):Nat→V→D→List Addr→Prop
 |0,v,d,fp=>Dv Z G v d∧fp= []
 |n+1,v,d,fp=>(∃a xs ds fj,v= .ref a∧d= .lst ds∧H a=some (.lst xs)∧fp=a::fj∧bP (Own Z G H n) xs ds fj)∨(1≤n∧∃a xs ds,v= .ref a∧d= .tup ds∧G a=some (.tup xs)∧bP (λv d f=>(IB d=true∧Own Z G H n v d f)∨(IB d=false∧Dv Z G v d∧f= [])) xs ds fp)∨(∃a φ,v= .ref a∧H a=some (.ext φ)∧fp= [a]∧((n=98∧∃b ns,d= .set b ns∧φ=cR b a ns)∨(n=97∧∃k,d= .x k∧wW G a φ k)))
theorem Own.lst{Z:DC}{G H:Hp}{n:Nat}{v:V}{ds:List D}{fp:List Addr}(o:Own Z G H (n+1) v (.lst ds) fp):∃a xs cZ fj,v= .ref a∧D.lst ds= .lst cZ∧H a=some (.lst xs)∧fp=a::fj∧bP (Own Z G H n) xs cZ fj:=by
 rcases o with o| ⟨_,a,xs,ds,_,e,_⟩ | ⟨a,φ,_,_,_,⟨_,b,ns,e,_⟩ | ⟨_,k,e,_⟩⟩
 ·exact o
 ·cases e
 ·cases e
 ·cases e
theorem Own.Dg{Z:DC}{G H:Hp}{v:V}{b:Bool}{ns:List Int}{fp:List Addr}(o:Own Z G H 99 v (.set b ns) fp):∃a,v= .ref a∧H a=some (.ext (cR b a ns))∧fp= [a]:=by
 rcases o with ⟨_,_,_,_,_,e,_⟩ | ⟨_,a,xs,ds,_,e,_⟩ | ⟨a,φ,h1,h2,h3,⟨_,b,ns,e,e2⟩ | ⟨_,k,e,_⟩⟩
 ·cases e
 ·cases e
 ·cases e;subst e2;exact ⟨a,h1,h2,h3⟩
 ·cases e
theorem Own.xA{Z:DC}{G H:Hp}{v:V}{k:XD}{fp:List Addr}(o:Own Z G H 98 v (.x k) fp):∃a φ,v= .ref a∧H a=some (.ext φ)∧fp= [a]∧wW G a φ k:=by
 rcases o with ⟨_,_,_,_,_,e,_⟩ | ⟨_,a,xs,ds,_,e,_⟩ | ⟨a,φ,h1,h2,h3,⟨_,b,ns,e,e2⟩ | ⟨_,k,e,h4⟩⟩
 ·cases e
 ·cases e
 ·cases e
 ·cases e;exact ⟨a,φ,h1,h2,h3,h4⟩
theorem Own.one{Z:DC}{G H:Hp}{v:V}{d:D}{fp:List Addr}(o:Own Z G H 1 v d fp):∃a xs ds fj,v= .ref a∧d= .lst ds∧H a=some (.lst xs)∧fp=a::fj∧bP (Own Z G H 0) xs ds fj:=by
 rcases o with o| ⟨z,_⟩ | ⟨_,_,_,_,_,⟨z,_⟩ | ⟨z,_⟩⟩
 ·exact o
 ·exact absurd z (by decide)
 ·exact absurd z (by decide)
 ·exact absurd z (by decide)
theorem bP.imp{R R':V→D→List Addr→Prop}:∀{vs:List V}{ds:List D}{fp:List Addr},bP R vs ds fp→(∀v d f,(∀b∈f,b∈fp)→R v d f→R' v d f)→bP R' vs ds fp
 |_,_,_, .nil,_=> .nil
 |_,_,_, .cons a as,h=> .cons (h _ _ _ (λb hb=>fc _ hb) a) (as.imp λv d f hf r=>h v d f (λb hb=>dg _ (hf b hb)) r)
theorem bP.length{R:V→D→List Addr→Prop}:∀{vs:List V}{ds:List D}{fp:List Addr},bP R vs ds fp→vs.length=ds.length
 |_,_,_, .nil=>rfl
 |_,_,_, .cons _ as=>congrArg (·+1) as.length
section
variable {Z:DC} {G G' H H':Hp}
theorem Own.keep:∀{n:Nat}{v:V}{d:D}{fp:List Addr},Own Z G H n v d fp→aJ G G'→(∀b∈fp,H' b=H b)→Own Z G' H' n v d fp
 |0,_,_,_,⟨a,b⟩,s,_=>⟨a.mono s,b⟩
 |n+1,_,_,_, .inl ⟨a,xs,ds,fj,hv,hd,ha,hf,ho⟩,s,k=>by
  subst hf;exact .inl ⟨a,xs,ds,fj,hv,hd,by rw [k a (eH ..)];exact ha,rfl,ho.imp λv d f hb r=>Own.keep r s λb q=>k b (fg _ (hb b q))⟩
 |n+1,_,_,_, .inr (.inl ⟨h1,a,xs,ds,hv,hd,ha,ho⟩),s,k=> .inr (.inl ⟨h1,a,xs,ds,hv,hd,s _ _ ha,ho.imp λv d f hb r=>r.imp (λr=>⟨r.1,Own.keep r.2 s λb q=>k b (hb b q)⟩) λr=>⟨r.1,r.2.1.mono s,r.2.2⟩⟩)
 |n+1,_,_,_, .inr (.inr ⟨a,φ,hv,ha,hf,hx⟩),s,k=> .inr (.inr ⟨a,φ,hv,by rw [k a (by rw [hf];exact eH ..)];exact ha,hf,hx.imp id λ⟨h1,k,h2,h3⟩=>⟨h1,k,h2,h3.mono s⟩⟩)
theorem bP.sY{R:V→D→List Addr→Prop}:∀{vs:List V}{ds:List D}{fp:List Addr},bP R vs ds fp→(∀v d f,(∀b∈f,b∈fp)→R v d f→Dv Z G' v d)→ar Z G' vs ds
 |_,_,_, .nil,_=> .nil
 |_,_,_, .cons a as,k=> .cons (k _ _ _ (λb hb=>fc _ hb) a) (as.sY λv d f hf r=>k v d f (λb hb=>dg _ (hf b hb)) r)
theorem Own.dv:∀{n:Nat}{v:V}{d:D}{fp:List Addr},Own Z G H n v d fp→aJ G G'→(∀b∈fp,∀o,H b=some o→G' b=some o)→Dv Z G' v d
 |0,_,_,_,⟨a,_⟩,s,_=>a.mono s
 |n+1,_,_,_, .inl ⟨a,xs,ds,fj,hv,hd,ha,hf,ho⟩,s,k=>by
  subst hf hv hd;exact .lst (k a (eH ..) _ ha) (ho.sY λv d f hf r=>Own.dv r s λb hb=>k b (fg _ (hf b hb)))
 |n+1,_,_,_, .inr (.inl ⟨_,a,xs,ds,hv,hd,ha,ho⟩),s,k=>by
  subst hv hd;exact .tup (s _ _ ha) (ho.sY λv d f hf r=>r.elim (λr=>Own.dv r.2 s λb hb=>k b (hf b hb)) λr=>r.2.1.mono s)
 |n+1,_,_,_, .inr (.inr ⟨a,φ,hv,ha,hf,hx⟩),s,k=>by
  subst hv hf
  rcases hx with ⟨_,b,ns,hd,hp⟩ | ⟨_,kx,hd,hp⟩
  ·subst hd hp
   exact .set (k a (eH ..) _ ha)
  ·subst hd
   exact .x (k a (eH ..) _ ha) (hp.mono s)
theorem bP.flat:∀{vs:List V}{ds:List D}{fp:List Addr},bP (Own Z G H 0) vs ds fp→ar Z G vs ds∧fp= []
 |_,_,_, .nil=>⟨.nil,rfl⟩
 |_,_,_, .cons a as=>by
  obtain ⟨h1,h2⟩:=as.flat;obtain ⟨a1,a2⟩:=a;exact ⟨.cons a1 h1,by rw [a2,h2];rfl⟩
theorem ar.own:∀{vs:List V}{ds:List D},ar Z G vs ds→bP (Own Z G H 0) vs ds []
 |_,_, .nil=> .nil
 |_,_, .cons a as=> .cons (f:= []) (fs:= []) ⟨a,rfl⟩ as.own
theorem Dv.flat{v:V}{d:D}(h:Dv Z G v d)(f:bU d=true):Dv Z G' v d:=by
 cases h with
 |aN=>exact .aN
 |bl b=>exact .bl b
 |int i=>exact .int i
 |str x k=>exact .str x k
 |_=>cases f
end
mutual
def jc:D→Bool
 | .aN=>true
 | .bl _=>true
 | .int _=>true
 | .str _=>true
 | .tup l=>wq l
 |_=>false
def wq:List D→Bool
 | []=>true
 |d::ds=>jc d&&wq ds
end
mutual
theorem Dv.jc{Z:DC}{G G':Hp}(k:∀b xs,G b=some (.tup xs)→G' b=some (.tup xs)):∀{v:V}{d:D},Dv Z G v d→L2.jc d=true→Dv Z G' v d
 |_,_, .aN,_=> .aN
 |_,_, .bl b,_=> .bl b
 |_,_, .int i,_=> .int i
 |_,_, .str x h,_=> .str x h
 |_,_, .tup h a,f=> .tup (k _ _ h) (ar.jc k a (by rw [L2.jc] at f;exact f))
 |_,_, .lst _ _,f=>by simp [L2.jc] at f
 |_,_, .obj _,f=>by simp [L2.jc] at f
 |_,_, .rng _,f=>by simp [L2.jc] at f
 |_,_, .e8 _ _,f=>by simp [L2.jc] at f
 |_,_, .iH _ _ _ _ _,f=>by simp [L2.jc] at f
 |_,_, .set _,f=>by simp [L2.jc] at f
 |_,_, .x _ _,f=>by simp [L2.jc] at f
theorem ar.jc{Z:DC}{G G':Hp}(k:∀b xs,G b=some (.tup xs)→G' b=some (.tup xs)):∀{vs:List V}{ds:List D},ar Z G vs ds→wq ds=true→ar Z G' vs ds
 |_,_, .nil,_=> .nil
 |_,_, .cons a as,f=>by
  rw [wq,pX] at f;exact .cons (Dv.jc k a f.1) (ar.jc k as f.2)
end
def De:HO→Bool
 | .lst _=>true
 | .ext _=>true
 |_=>false
theorem Own.El{Z:DC}{G G' H:Hp}:∀{n:Nat}{v:V}{d:D}{fp:List Addr},Own Z G H n v d fp→aJ G G'→(∀b∈fp,∀o,De o=true→H b=some o→G' b=some o)→Dv Z G' v d
 |0,_,_,_,⟨a,_⟩,s,_=>a.mono s
 |n+1,_,_,_, .inl ⟨a,xs,ds,fj,hv,hd,ha,hf,ho⟩,s,k=>by
  subst hf hv hd;exact .lst (k a (eH ..) _ rfl ha) (ho.sY λv d f hf r=>Own.El r s λb hb=>k b (fg _ (hf b hb)))
 |n+1,_,_,_, .inr (.inl ⟨_,a,xs,ds,hv,hd,ha,ho⟩),s,k=>by
  subst hv hd;exact .tup (s _ _ ha) (ho.sY λv d f hf r=>r.elim (λr=>Own.El r.2 s λb hb=>k b (hf b hb)) λr=>r.2.1.mono s)
 |n+1,_,_,_, .inr (.inr ⟨a,φ,hv,ha,hf,hx⟩),s,k=>by
  subst hv hf
  rcases hx with ⟨_,b,ns,hd,hp⟩ | ⟨_,kx,hd,hp⟩
  ·subst hd hp
   exact .set (k a (eH ..) _ rfl ha)
  ·subst hd
   exact .x (k a (eH ..) _ rfl ha) (hp.mono s)
structure Bs where
 G₀:Hp
 H₀:Hp
 Gf:Hp
structure SIx (Z:DC) (B:Bs) (md:List Nat) (ρ:DN) (σ:St) (H G:Hp) (fp:Nat→List Addr):Prop where
 ex:Ext B.G₀ B.H₀ G H
 fl:aJ B.Gf G
 len:ρ.length=σ.length
 at_:∀(i:Nat)(d:D),ρ[i]? =some (some d)→∃v,σ[i]? =some (some v)∧Own Z G H (md.getD i 0) v d (fp i)
 nd:∀i,(fp i).Nodup
 ap:∀i j b,i≠j→b∈fp i→b∉fp j
 nw:∀i b,b∈fp i→B.H₀ b=none∧H b≠none∧G b=none
def SI(Z:DC)(B:Bs)(md:List Nat)(ρ:DN)(σ:St)(H:Hp):Prop:=∃G fp,SIx Z B md ρ σ H G fp
def b7:List Nat→DN→DN
 |_,[]=> []
 | [],o::ρ=>o::ρ
 |0::md,o::ρ=>o::b7 md ρ
 | (_+1)::md,_::ρ=>none::b7 md ρ
theorem kD:∀(md:List Nat)(ρ:DN),(b7 md ρ).length=ρ.length
 |md,[]=>by cases md<;>rfl
 | [],o::ρ=>rfl
 |0::md,o::ρ=>by rw [b7,dW,kD md ρ,dW]
 | (_+1)::md,_::ρ=>by rw [b7,dW,kD md ρ,dW]
theorem mz{d:D}:∀(md:List Nat)(ρ:DN)(i:Nat),(b7 md ρ)[i]? =some (some d)→md.getD i 0=0∧ρ[i]? =some (some d)
 |md,[],i,h=>by cases md<;>simp [b7] at h
 | [],o::ρ,i,h=>⟨by simp,h⟩
 |0::md,o::ρ,0,h=>⟨rfl,by simpa [b7] using h⟩
 |0::md,o::ρ,i+1,h=>by
  rw [b7,pS] at h;obtain ⟨a,b⟩:=mz md ρ i h;exact ⟨by rw [List.getD_cons_succ];exact a,by rw [pS];exact b⟩
 | (_+1)::md,_::ρ,0,h=>by simp [b7] at h
 | (_+1)::md,_::ρ,i+1,h=>by
  rw [b7,pS] at h;obtain ⟨a,b⟩:=mz md ρ i h;exact ⟨by rw [List.getD_cons_succ];exact a,by rw [pS];exact b⟩
def mG(md:List Nat):Bool→DN→DN
 |true,ρ=>ρ
 |false,ρ=>b7 md ρ
def nU:Bool→D→Prop
 |true,d=>jc d=true
 |false,_=>True
section
variable {Z:DC} {B:Bs} {md:List Nat} {ρ:DN} {σ:St} {H G:Hp} {fp:Nat→List Addr}
theorem vA{i:Nat}{d:D}(h:(b7 md ρ)[i]? =some (some d)):md.getD i 0=0∧ρ[i]? =some (some d):=mz md ρ i h
theorem SIx.yP(S:SIx Z B md ρ σ H G fp):b0 Z G σ (b7 md ρ):=by
 refine ⟨by rw [kD];exact S.len,λi d h=>?_⟩
 obtain ⟨z,h⟩:=vA h;obtain ⟨v,hv,o⟩:=S.at_ i d h;rw [z] at o;exact ⟨v,hv,o.1⟩
theorem SIx.mP(S:SIx Z B md ρ σ H G fp):b0 Z H σ ρ:=by
 refine ⟨S.len,λi d h=>?_⟩;obtain ⟨v,hv,o⟩:=S.at_ i d h;exact ⟨v,hv,o.dv S.ex.sub λb _ u e=>e⟩
theorem SIx.grow{G' H':Hp}(S:SIx Z B md ρ σ H G fp)(x:Ext G H G' H'):SIx Z B md ρ σ H' G' fp where
 ex:=S.ex.trans x
 fl:=S.fl.trans x.gg
 len:=S.len
 at_:=λi d h=>by
  obtain ⟨v,hv,o⟩:=S.at_ i d h;refine ⟨v,hv,o.keep x.gg λb hb=>?_⟩;cases e:H b with
  |none=>exact absurd e (S.nw i b hb).2.1
  |some u=>exact x.hh _ _ e
 nd:=S.nd
 ap:=S.ap
 nw:=λi b hb=>let ⟨h1,h2,h3⟩:=S.nw i b hb;⟨h1,e9 x.hh h2,x.off b h2 h3⟩
theorem Ext.all{G' H':Hp}(s:aJ G H)(x:Ext H H G' H'):Ext G H G H':=⟨.refl _,s.trans x.hh,x.hh,λ_ _ h=>h⟩
open Classical in
noncomputable def fA(G H:Hp)(fp:Nat→List Addr):Hp:=λb=>if ∃i,b∈fp i then (match H b with|some (.lst xs)=>some (.lst xs) |some (.ext φ)=>some (.ext φ) |_=>none) else G b
open Classical in
noncomputable def mf(G:Hp)(fp:Nat→List Addr):Hp:=λb=>if ∃i,b∈fp i then none else G b
theorem ya{b:Addr}{o:HO}(i:Nat)(h:b∈fp i)(ho:De o=true)(e:H b=some o):fA G H fp b=some o:=by
 unfold fA;rw [if_pos ⟨i,h⟩,e];cases o<;>first|rfl|cases ho
theorem kH{b:Addr}(h:¬∃i,b∈fp i):fA G H fp b=G b:=if_neg h
theorem SIx.CV(S:SIx Z B md ρ σ H G fp):aJ G (fA G H fp)∧aJ (fA G H fp) H∧b0 Z (fA G H fp) σ ρ:=by
 have s1:aJ G (fA G H fp):=λb o e=>by
  by_cases h:∃i,b∈fp i
  ·obtain ⟨i,hi⟩:=h
   rw [(S.nw i b hi).2.2] at e;cases e
  ·rw [kH h];exact e
 refine ⟨s1,λb o e=>?_,S.len,λi d h=>?_⟩
 ·by_cases h:∃i,b∈fp i
  ·unfold fA at e
   rw [if_pos h] at e
   split at e
   ·next xs hx=>rw [hx];exact e
   ·next φ hx=>rw [hx];exact e
   ·cases e
  ·rw [kH h] at e;exact S.ex.sub _ _ e
 ·obtain ⟨v,hv,o⟩:=S.at_ i d h
  exact ⟨v,hv,o.El s1 λb hb u hu hx=>ya i hb hu hx⟩
theorem SIx.JS{G' H':Hp}(S:SIx Z B md ρ σ H G fp)(x:Ext (fA G H fp) H G' H'):Ext G H (mf G' fp) H'∧∀b xs,G' b=some (.tup xs)→mf G' fp b=some (.tup xs):=by
 obtain ⟨s1,s2,_⟩:=S.CV;refine ⟨⟨λb o e=>?_,λb o e=>?_,x.hh,λb hb hg=>?_⟩,λb xs e=>?_⟩
 ·have h:¬∃i,b∈fp i:=by
   rintro ⟨i,hi⟩;rw [(S.nw i b hi).2.2] at e;cases e
  unfold mf;rw [if_neg h];exact x.gg _ _ (s1 _ _ e)
 ·unfold mf at e
  split at e
  ·cases e
  ·exact x.sub _ _ e
 ·unfold mf
  split
  ·rfl
  ·next h=>exact x.off b hb (by rw [kH h];exact hg)
 ·have h:¬∃i,b∈fp i:=by
   rintro ⟨i,hi⟩;have hb:=(S.nw i b hi).2.1;cases hw:fA G H fp b with
   |none=>rw [x.off b hb hw] at e;cases e
   |some o=>
    have:=x.gg _ _ hw
    rw [e] at this;cases this;unfold fA at hw;rw [if_pos ⟨i,hi⟩] at hw
    split at hw<;>cases hw
  unfold mf;rw [if_neg h];exact e
theorem SIx.ev{t:aK}{P:D→Prop}{Q:VK}(S:SIx Z B md ρ σ H G fp)(m:Bool)(h:t (mG md m ρ) P)
  (hq:∀d,P d→nU m d∧∀v G' H',SIx Z B md ρ σ H' G' fp→Ext G H G' H'→Dv Z G' v d→Q v H'):cB Z t σ H Q:=by
 cases m with
 |false=>exact ⟨G,_,P,S.ex.sub,S.yP,h,λd hd v G' H' x dv=>(hq d hd).2 v G' H' (S.grow x) x dv⟩
 |true=>
  obtain ⟨s1,s2,e⟩:=S.CV;refine ⟨fA G H fp,_,P,s2,e,h,λd hd v G' H' x dv=>?_⟩;obtain ⟨x',k⟩:=S.JS x;exact (hq d hd).2 v _ H' (S.grow x') x' (dv.jc k (hq d hd).1)
theorem SIx.Hq{t:bY}{P:Bool→Prop}{Q:Bool→Hp→Prop}(S:SIx Z B md ρ σ H G fp)(h:t ρ P)(hq:∀b,P b→∀H',SIx Z B md ρ σ H' G fp→Q b H'):liftT Z t σ H Q:=
 ⟨H,ρ,P, .refl _,S.mP,h,λb hb G' H' x=>hq b hb H' (S.grow (Ext.all S.ex.sub x))⟩
theorem SIx.pP{i:Nat}{v:V}{d:D}(S:SIx Z B md ρ σ H G fp)(hm:md.getD i 0=0)(dv:Dv Z G v d):SIx Z B md (ρ.set i (some d)) (σ.set i (some v)) H G (λj=>if j=i then [] else fp j) where
 ex:=S.ex
 fl:=S.fl
 len:=by rw [fG,fG];exact S.len
 at_:=λj c h=>by
  by_cases z:i=j
  ·subst z
   by_cases hi:i<ρ.length
   ·rw [gw hi] at h
    cases h;exact ⟨v,gw (by rw [←S.len];exact hi),by rw [hm,if_pos rfl];exact ⟨dv,rfl⟩⟩
   ·rw [ur (gz hi),gT (gz hi)] at h;cases h
  ·rw [gx z] at h ⊢
   rw [if_neg (Ne.symm z)];exact S.at_ j c h
 nd:=λj=>by split;exact fH;exact S.nd j
 ap:=λj k b ne hj hk=>by
  split at hj
  ·cases hj
  ·split at hk
   ·cases hk
   ·exact S.ap j k b ne hj hk
 nw:=λj b hb=>by
  split at hb
  ·cases hb
  ·exact S.nw j b hb
theorem SIx.qM{i n:Nat}{v:V}{d:D}{f:List Addr}(S:SIx Z B md ρ σ H G fp)(hm:md.getD i 0=n)(o:Own Z G H n v d f)(nd:f.Nodup)(nw:∀b∈f,B.H₀ b=none∧H b≠none∧G b=none)(ap:∀b∈f,∀j,j≠i→b∉fp j):
  SIx Z B md (ρ.set i (some d)) (σ.set i (some v)) H G (λj=>if j=i then f else fp j) where
 ex:=S.ex
 fl:=S.fl
 len:=by rw [fG,fG];exact S.len
 at_:=λj c h=>by
  by_cases z:i=j
  ·subst z
   by_cases hi:i<ρ.length
   ·rw [gw hi] at h
    cases h;exact ⟨v,gw (by rw [←S.len];exact hi),by rw [hm,if_pos rfl];exact o⟩
   ·rw [ur (gz hi),gT (gz hi)] at h;cases h
  ·rw [gx z] at h ⊢
   rw [if_neg (Ne.symm z)];exact S.at_ j c h
 nd:=λj=>by split;exact nd;exact S.nd j
 ap:=λj k b ne hj hk=>by
  split at hj
  ·next z=>
   rw [if_neg (λw=>ne (z.trans w.symm))] at hk;exact ap b hj k (λw=>ne (z.trans w.symm)) hk
  ·next z=>
   split at hk
   ·exact ap b hk j z hj
   ·exact S.ap j k b ne hj hk
 nw:=λj b hb=>by
  split at hb
  ·exact nw b hb
  ·exact S.nw j b hb
noncomputable def plus(G H:Hp)(F:Addr→Prop):Hp:=λb=>open Classical in if F b then H b else G b
theorem iB{F:Addr→Prop}{b:Addr}(h:F b):plus G H F b=H b:=by unfold plus;rw [if_pos h]
theorem eF{F:Addr→Prop}{b:Addr}(h:¬F b):plus G H F b=G b:=by unfold plus;rw [if_neg h]
theorem fV{F:Addr→Prop}(s:aJ G H):aJ (plus G H F) H:=λb o e=>by
 by_cases h:F b
 ·rw [iB h] at e;exact e
 ·rw [eF h] at e;exact s _ _ e
theorem cw{F:Addr→Prop}(s:aJ G H):aJ G (plus G H F):=λb o e=>by
 by_cases h:F b
 ·rw [iB h];exact s _ _ e
 ·rw [eF h];exact e
theorem SIx.MD{t:aK}{P:D→Prop}{Q:VK}(S:SIx Z B md ρ σ H G fp)(h:t ρ P)(hq:∀d,P d→∀v G' H',Ext B.G₀ B.H₀ G' H'→Dv Z G' v d→Q v H'):cB Z t σ H Q:=by
 let F:Addr→Prop:=λb=>∃i,b∈fp i
 have s:=S.ex.sub
 have x0:Ext B.G₀ B.H₀ (plus G H F) H:=⟨S.ex.gg.trans (cw s),fV s,S.ex.hh,λb hb hg=>by
  rw [eF (λ⟨i,hi⟩=>hb (S.nw i b hi).1)];exact S.ex.off b hb hg⟩
 refine ⟨plus G H F,ρ,P,fV s,⟨S.len,λi d h=>?_⟩,h,λd hd v G' H' x dv=>hq d hd v G' H' (x0.trans x) dv⟩;obtain ⟨v,hv,o⟩:=S.at_ i d h;exact ⟨v,hv,o.dv (cw s) λb hb u e=>by rw [iB ⟨i,hb⟩];exact e⟩
end
structure bT where
 nx:DN→Prop
 rt:D→Prop
 bk:DN→Prop:=λ_=>False
 ct:DN→Prop:=λ_=>False
abbrev bF:=bT→DN→Prop
structure Meets (Z:DC) (B:Bs) (md:List Nat) (rn:Nat) (E:bT) (Dn:Ends):Prop where
 nx:∀ρ,E.nx ρ→∀σ H,SI Z B md ρ σ H→Dn.nx σ H
 rt:∀d,E.rt d→∀v f G' H',Ext B.G₀ B.H₀ G' H'→Own Z G' H' rn v d f→f.Nodup→(∀b∈f,B.H₀ b=none∧H' b≠none∧G' b=none)→Dn.rt v H'
 bk:∀ρ,E.bk ρ→∀σ H,SI Z B md ρ σ H→Dn.bk σ H
 ct:∀ρ,E.ct ρ→∀σ H,SI Z B md ρ σ H→Dn.ct σ H
def ky(Z:DC)(md:List Nat)(rn:Nat)(t:bF):TS:=λDn σ H=>∃(B:Bs)(ρ:DN)(E:bT),SI Z B md ρ σ H∧t E ρ∧Meets Z B md rn E Dn
def DSt(Z:DC)(X:Cx)(md:List Nat)(rn:Nat)(st:Stmt)(t:bF):Prop:=PS X st (ky Z md rn t)
def DSs(Z:DC)(X:Cx)(md:List Nat)(rn:Nat)(B7:List Stmt)(t:bF):Prop:=jg X B7 (ky Z md rn t)
theorem PS.imp{X:Cx}{st:Stmt}{t t':TS}(h:PS X st t)(f:∀D σ H,t' D σ H→t D σ H):PS X st t':=λpins s σ H D I q=>h pins s σ H D I (f _ _ _ q)
theorem jg.imp{X:Cx}{st:List Stmt}{t t':TS}(h:jg X st t)(f:∀D σ H,t' D σ H→t D σ H):jg X st t':=λpins s σ H D I q=>h pins s σ H D I (f _ _ _ q)
section
variable {Z:DC} {X:Cx} {md:List Nat} {rn:Nat} {st:Stmt} {B7:List Stmt} {t u:bF} {e:Expr} {te:aK} {pos:Pos}
def kg:bF:=λE ρ=>E.nx ρ
def oy(t u:bF):bF:=λE ρ=>t {E with nx:=u E} ρ
theorem aQ:DSs Z X md rn [] kg:=t6.imp λD σ H ⟨B,ρ,E,S,h,M⟩=>M.nx _ h _ _ S
theorem ag(h1:DSt Z X md rn st t)(h2:DSs Z X md rn B7 u):DSs Z X md rn (st::B7) (oy t u):=
 (dE h1 h2).imp λD σ H ⟨B,ρ,E,S,h,M⟩=>⟨B,ρ,_,S,h,⟨λaE h' aD H' S'=>⟨B,aE,E,S',h',M⟩,M.rt,M.bk,M.ct⟩⟩
theorem ao(h1:DSt Z X md rn st t):DSs Z X md rn [st] t:=pK h1
theorem qo:DSt Z X md rn st (λ_ _=>False):=xJ.imp λD σ H ⟨B,ρ,E,S,h,M⟩=>h
def GU(te:aK):bF:=λE ρ=>te ρ E.rt
theorem aO(he:DE Z X e te):DSt Z X md 0 (.Return (some e) pos) (GU te):=(sh he).imp λD σ H ⟨B,ρ,E,⟨G,fp,S⟩,h,M⟩=>S.MD h λd hd v G' H' x dv=>M.rt d hd v [] G' H' x ⟨dv,rfl⟩ fH (λb hb=>by cases hb)
def Ea(i:Nat):bF:=λE ρ=>∃d,ρ[i]? =some (some d)∧E.rt d
theorem yL(i:Nat){x:Str}{px:Pos}(hm:md.getD i 0=rn:=by rfl)(hi:X.N[i]? =some x:=by rfl)(hv:iK X.env.scope x:=by first|exact Or.inl rfl|exact Or.inr (Or.inl rfl) |exact Or.inr (Or.inr rfl))(hd:(x==("__debug__":Str))=false:=by decide)(cA:(x==("__classdict__":Str))=false:=by decide):
  DSt Z X md rn (.Return (some (.Name x px)) pos) (Ea i):=(sh (r8 hi hv hd cA)).imp λD σ H ⟨B,ρ,E,⟨G,fp,S⟩,⟨d,hd,h⟩,M⟩=>by
 obtain ⟨v,hv,o⟩:=S.at_ i d hd;rw [hm] at o;exact ⟨v,hv,M.rt d h v (fp i) G H S.ex o (S.nd i) (S.nw i)⟩
def ox(c:bY)(t u:bF):bF:=λE ρ=>c ρ λb=>if b=true then t E ρ else u E ρ
theorem bA{c:Expr}{a b:List Stmt}{tc:bY}(hc:DT Z X c tc)(ha:DSs Z X md rn a t)(hb:DSs Z X md rn b u):DSt Z X md rn (.If c a b pos) (ox tc t u):=by
 refine (z3 hc ha hb).imp ?_;rintro D σ H ⟨B,ρ,E,⟨G,fp,S⟩,h,M⟩;refine S.Hq h λb hb H' S'=>?_;cases b with
 |true=>exact b6 ⟨B,ρ,E,⟨G,fp,S'⟩,(by simpa using hb),M⟩
 |false=>exact cD ⟨B,ρ,E,⟨G,fp,S'⟩,(by simpa using hb),M⟩
def sT(md:List Nat)(m:Bool)(i:Nat)(te:aK):bF:=λE ρ=>te (mG md m ρ) λd=>nU m d∧E.nx (ρ.set i (some d))
theorem aC(m:Bool)(i:Nat){x:Str}{pos':Pos}(hN:X.N.Nodup)(he:DE Z X e te)(hm:md.getD i 0=0:=by rfl)(hi:X.N[i]? =some x:=by rfl)(hx:Loc X.env.scope x:=by first|exact Or.inl rfl|exact Or.inr rfl)(hs:swapsWith e (some (.Name x pos')) pos.line X.env=pure false:=by rfl)
  (hf:X.fn x=true∨X.env.scope.names.lookup x=some .local:=by first|exact .inl rfl|exact .inr rfl|assumption):DSt Z X md rn (.Assign [.Name x pos'] e pos) (sT md m i te):=by
 refine (eQ hN hi hx he hs hf).imp ?_;rintro D σ H ⟨B,ρ,E,⟨G,fp,S⟩,h,M⟩;exact S.ev m h λd hd=>⟨hd.1,λv G' H' S' x dv=>M.nx _ hd.2 _ _ ⟨G',_,S'.pP hm dv⟩⟩
theorem qq(i:Nat){x:Str}{px gQ:Pos}{tg iter elt:Expr}{ifs:List Expr}{scope:Scope}{NC:List Str}{src:List (Option Nat)}{wi:gU}{g:cW}{tt:bY}(hc:X.calm=true)(hN:X.N.Nodup)(c:bE X scope)(dD:b4 scope X.N src NC)(hi:DI Z X tg iter wi)
  (hg:∀ex s H,DG Z (dq X scope NC ex s H) tg g) (ht:∀ex s H,uA Z (dq X scope NC ex s H) ifs tt) (he:∀ex s H,DE Z (dq X scope NC ex s H) elt te)
  (jq:swapsWith (.ListComp elt [⟨tg,iter,ifs,0⟩] scope pos) (some (.Name x px)) gQ.line X.env=pure true:=by rfl) (hm:md.getD i 0=0:=by rfl) (qd:X.N[i]? =some x:=by rfl) (hx:Loc X.env.scope x:=by first|exact Or.inl rfl|exact Or.inr rfl)
  (hf:X.fn x=true∨X.env.scope.names.lookup x=some .local:=by first|exact .inl rfl|exact .inr rfl|assumption)
  (hs:∀x,foldedSetIterable iter X.env x=pure x:=by intro _;rfl):DSt Z X md rn (.Assign [.Name x px] (.ListComp elt [⟨tg,iter,ifs,0⟩] scope pos) gQ) (sT md false i (D5 wi g tt te src)):=by
 refine (jS hc hN qd hx c dD hi hg ht he jq hf hs).imp ?_;rintro D σ H ⟨B,ρ,E,⟨G,fp,S⟩,h,M⟩;refine wo σ H _ (S.ev false h λd hd=>⟨hd.1,λv G' H' S' x dv=>M.nx _ hd.2 _ _ ⟨G',_,S'.pP hm dv⟩⟩)
end
end L2
namespace L2
open PySem PySem.Spec PyProof.Rows
section
variable {Z:DC} {X:Cx} {B:Bs} {md:List Nat} {rn:Nat} {ρ:DN} {σ:St} {H G:Hp} {fp:Nat→List Addr}
def wk(Z:DC)(md:List Nat)(g:cW):TG:=λv σ H Q=>∃(B:Bs)(ρ:DN)(d:D)(P:DN→Prop)(G:Hp)(fp:Nat→List Addr),SIx Z B md ρ σ H G fp∧Dv Z G v d∧g d ρ P∧∀aE,P aE→∀aD yT,SIx Z B md aE aD H G yT→Q aD H
def zA(Z:DC)(md:List Nat)(g:mI):qY:=λvs σ H Q=>∃(B:Bs)(ρ:DN)(ds:List D)(P:DN→Prop)(G:Hp)(fp:Nat→List Addr),SIx Z B md ρ σ H G fp∧ar Z G vs ds∧g ds ρ P∧∀aE,P aE→∀aD yT,SIx Z B md aE aD H G yT→Q aD H
def wV(Z:DC)(X:Cx)(md:List Nat)(e:Expr)(g:cW):Prop:=PG X e (wk Z md g)
def vU(Z:DC)(X:Cx)(md:List Nat)(es:List Expr)(g:mI):Prop:=sA X es (zA Z md g)
theorem aR(i:Nat){x:Str}{pos:Pos}(hN:X.N.Nodup)(hm:md.getD i 0=0:=by rfl)(hi:X.N[i]? =some x:=by rfl)(hx:Loc X.env.scope x:=by first|exact Or.inl rfl|exact Or.inr rfl)(hf:X.fn x=true∨X.env.scope.names.lookup x=some .local:=by first|exact .inl rfl|exact .inr rfl|assumption):wV Z X md (.Name x pos) (kO i):=
 (tX hN hi hx hf).imp λv σ H Q ⟨B,ρ,d,P,G,fp,S,dv,h,q⟩=>q _ h _ _ (S.pP hm dv)
theorem fR:vU Z X md [] Ef:=tY.imp λv σ H Q ⟨B,ρ,ds,P,G,fp,S,dv,⟨h,p⟩,q⟩=>by
 subst h;cases dv;exact ⟨rfl,q _ p _ _ S⟩
theorem bM{e:Expr}{es:List Expr}{g:cW}{gs:mI}(h1:wV Z X md e g)(h2:vU Z X md es gs)(hs:(assignEach (e::es) X.env).map (·.2)=assign e X.env::(assignEach es X.env).map (·.2):=by rfl):vU Z X md (e::es) (AU g gs):=by
 refine (mx h1 h2 hs).imp ?_;rintro v σ H Q ⟨B,ρ,ds,P,G,fp,S,dv,h,q⟩;cases dv with
 |nil=>exact h.elim
 |cons a as=>exact ⟨_,_,rfl,B,ρ,_,_,G,fp,S,a,h,λaE hp aD yT S'=>⟨B,aE,_,P,G,yT,S',as,hp,q⟩⟩
theorem jM(n:Nat){es:List Expr}{k:Nat}{pos:Pos}{gs:mI}(hc:X.calm=true)(h:vU Z X md es gs)(hn:(assignEach es X.env).length=n:=by rfl)(EW:(assignEach es X.env).findIdx? (·.1)=none:=by rfl):wV Z X md (.Tuple es k pos) (Eg n gs):=by
 refine (wy hc h hn EW).imp ?_;rintro v σ H Q ⟨B,ρ,d,P,G,fp,S,dv,h,q⟩;cases dv<;>first|exact h.elim|skip
 rename_i a xs ds ha es
 exact ⟨a,xs,rfl,dH.of (S.ex.sub _ _ ha),by rw [es.length];exact h.1,B,ρ,_,P,G,fp,S,es,h.2,q⟩
def iT(g:cW)(tb:bF)(E:bT):List D→DN→Prop
 | [],ρ=>E.nx ρ
 |x::xs,ρ=>g x ρ λbZ=>tb {nx:=iT g tb E xs,ct:=iT g tb E xs,bk:=E.nx,rt:=E.rt} bZ
def CL(md:List Nat)(m:Bool)(wi:gU)(g:cW)(tb:bF):bF:=λE ρ=>wi (mG md m ρ) λds=>iT g tb E ds ρ
theorem lX{D':Ends}{J:It}{ds:List D}{g:cW}{tb:bF}{E:bT}(S:SIx Z B md ρ σ H G fp)(it:nZ Z G J ds)(hd:iT g tb E ds ρ)(M:Meets Z B md rn E D'):
  ∃W:Nat→Nat→St→Hp→Prop,(∃m,W 0 m σ H)∧∀i m σ H,W i m σ H→
   (J.stop i H∧D'.nx σ H)∨(J.go i H∧∃N:St→Hp→Prop,(∀aD H',N aD H'→∃m',m'<m∧W (i+1) m' aD H')∧∀x H',J.yld i H x H'→wk Z md g x σ H' λgE H2=>ky Z md rn tb {D' with nx:=N,ct:=N,bk:=D'.nx} gE H2):=by
 let B1:Bs:={B with Gf:=G}
 have back:∀ρ σ H,SI Z B1 md ρ σ H→SI Z B md ρ σ H:=λρ σ H ⟨G2,uO,S2⟩=>⟨G2,uO,⟨S2.ex,S.fl.trans S2.fl,S2.len,S2.at_,S2.nd,S2.ap,S2.nw⟩⟩;have S1:SIx Z B1 md ρ σ H G fp:=⟨S.ex, .refl _,S.len,S.at_,S.nd,S.ap,S.nw⟩;refine ⟨λi m σ H=>m=ds.length-i∧i≤ds.length∧∃ρ,SI Z B1 md ρ σ H∧iT g tb E (ds.drop i) ρ,⟨_,rfl,gB _,ρ,⟨G,fp,S1⟩,hd⟩,?_⟩;rintro i m gE H2 ⟨rfl,hi,gD,⟨G2,uO,S2⟩,hf⟩;obtain ⟨go,stop,yld⟩:=it G2 H2 S2.fl S2.ex.sub i
 by_cases eX:i<ds.length
 ·refine .inr ⟨go eX,λaD H'=>∃aE,SI Z B1 md aE aD H'∧iT g tb E (ds.drop (i+1)) aE,λaD H' n=>⟨ds.length-(i+1),by omega,rfl,eX,n⟩,λx H' y=>?_⟩
  obtain ⟨G3,d,x3,EH,dv⟩:=yld x H' eX y;rw [oE EH] at hf;refine ⟨B1,gD,d,_,G3,uO,S2.grow x3,dv,hf,λQR h4 je MG S4=>?_⟩;exact ⟨B1,QR,_,⟨G3,MG,S4⟩,h4,⟨λaE h' aD H' s'=>⟨aE,s',h'⟩,M.rt,λaE h' aD H' s'=>M.nx _ h' _ _ (back _ _ _ s'),λaE h' aD H' s'=>⟨aE,s',h'⟩⟩⟩
 ·have e:ds.drop i= []:=wN (by omega)
  rw [e] at hf;exact .inl ⟨stop (by omega),M.nx _ hf _ _ (back _ _ _ ⟨G2,uO,S2⟩)⟩
variable {tg iter:Expr} {body:List Stmt} {wi:gU} {g:cW} {tb:bF} {pos:Pos}
theorem dh(hc:X.calm=true)(hp:PassesOwn (model X.prog X.w) X.A X.env X.xe)(hi:DI Z X tg iter wi)(hg:wV Z X md tg g)(hb:DSs Z X md rn body tb)
  (hs:∀x,foldedSetIterable iter X.env x=pure x:=by intro _;rfl):DSt Z X md rn (.For tg iter body [] pos) (CL md false wi g tb):=by
 refine (sg hp hc hi hg hb hs).imp ?_;rintro D σ H ⟨B,ρ,E,⟨G,fp,S⟩,h,M⟩;exact ⟨G,_,_,S.ex.sub,S.yP,h,λds hd J G1 H1 x1 it=>lX (S.grow x1) it hd M⟩
def Bo(Z:DC)(wi:gU):TI:=λσ H R=>∃(G:Hp)(ρ:DN)(P:List D→Prop),aJ G H∧b0 Z G σ ρ∧wi ρ P∧∀ds,P ds→∀J G' H',Ext G H G' H'→(∀G2,nZ Z G2 J ds)→R J H'
def FQ(Z:DC)(X:Cx)(tg e:Expr)(wi:gU):Prop:=PI X tg e (Bo Z wi)
theorem f9(hc:X.calm=true)(hp:PassesOwn (model X.prog X.w) X.A X.env X.xe)(hi:FQ Z X tg iter wi)(hg:wV Z X md tg g)(hb:DSs Z X md rn body tb)
  (hs:∀x,foldedSetIterable iter X.env x=pure x:=by intro _;rfl):DSt Z X md rn (.For tg iter body [] pos) (CL md true wi g tb):=by
 refine (sg hp hc hi hg hb hs).imp ?_;rintro D σ H ⟨B,ρ,E,⟨G,fp,S⟩,h,M⟩;exact ⟨H,ρ,_, .refl _,S.mP,h,λds hd J G1 H1 x1 it=>lX (S.grow (Ext.all S.ex.sub x1)) (it _) hd M⟩
variable {a b e:Expr} {ta te:aK} {t:fX}
theorem dr{p:Pos}(hg:Gl X "range")(hm:X.mg "range"=none)(ha:DA Z X [a] t)(hs:starEach [a] X.env= [(false,eval a X.env)]:=by rfl):FQ Z X tg (.Call (.Name "range" p) [a] [] pos) (CO t):=by
 refine (pI hg hm ha hs).imp ?_;rintro σ H Q ⟨G,ρ,P,s,en,h,q⟩;refine ⟨G,ρ,_,s,en,h,λds hd vs G1 H1 x1 dv=>?_⟩
 split at hd
 ·obtain ⟨_,rfl,a⟩:=dv.ofOne
  exact ⟨_,by rw [a.ofInt],hd.1.1,hd.1.2,q _ hd.2 _ G1 H1 x1 λ_=>qA 0 _⟩
 ·exact hd.elim
def nP(c:bY)(tb:bF):bF:=λE ρ=>∃W:Nat→DN→Prop,(∃m,W m ρ)∧∀m ρ,W m ρ→c ρ λb=>if b=true then tb {nx:=λaE=>∃m',m'<m∧W m' aE,ct:=λaE=>∃m',m'<m∧W m' aE,bk:=E.nx,rt:=E.rt} ρ else E.nx ρ
theorem ie{c:Expr}{tc:bY}(hp:PassesOwn (model X.prog X.w) X.A X.env X.xe)(hc:DT Z X c tc)(hb:DSs Z X md rn body tb):DSt Z X md rn (.While c body [] pos) (nP tc tb):=by
 refine (xK hp hc hb).imp ?_;rintro D σ H ⟨B,ρ,E,S,⟨W,⟨m0,w0⟩,turn⟩,M⟩;refine ⟨λm σ H=>∃ρ,SI Z B md ρ σ H∧W m ρ,⟨m0,ρ,S,w0⟩,?_⟩;rintro m gE H2 ⟨gD,⟨G2,uO,S2⟩,w2⟩;refine S2.Hq (turn m gD w2) λb hb H' S'=>?_;cases b with
 |false=>exact cD (M.nx _ (by simpa using hb) _ _ ⟨G2,uO,S'⟩)
 |true=>
  refine b6 ⟨λaD H'=>∃aE m',m'<m∧SI Z B md aE aD H'∧W m' aE,λaD H' ⟨aE,m',h1,h2,h3⟩=>⟨m',h1,aE,h2,h3⟩,B,gD,_,⟨G2,uO,S'⟩,(by simpa using hb),?_⟩
  exact ⟨λaE ⟨m',h1,h2⟩ aD H' s'=>⟨aE,m',h1,s',h2⟩,M.rt,M.nx,λaE ⟨m',h1,h2⟩ aD H' s'=>⟨aE,m',h1,s',h2⟩⟩
abbrev fh:=DN→(List D→Prop)→Prop
def kv(Z:DC)(n:Nat)(t:fh):TE:=λσ H Q=>∃(G:Hp)(ρ:DN)(P:List D→Prop),aJ G H∧b0 Z G σ ρ∧t ρ P∧∀ds,P ds→∀v f G' H',Ext G H G' H'→Own Z G' H' n v (.lst ds) f→f.Nodup→(∀b∈f,H b=none∧H' b≠none∧G' b=none)→Q v H'
def DF(Z:DC)(X:Cx)(n:Nat)(e:Expr)(t:fh):Prop:=PE X e (kv Z n t)
theorem Ext.side{p:Addr}{o:HO}{G1 H1:Hp}(x:Ext G H G1 H1)(hp:H1 p=none):Ext G H G1 (upd H1 p o):=
 ⟨x.gg,λb u e=>by rw [ay (aM e (x.sub.free hp))];exact x.sub _ _ e,x.hh.trans (aG hp _),x.off⟩
theorem eZ{p:Addr}{xs:List V}{ds:List D}{G1 H1:Hp}(x:Ext G H G1 H1)(hp:H1 p=none)(dv:ar Z G1 xs ds):
  Own Z G1 (upd H1 p (.lst xs)) 1 (.ref p) (.lst ds) [p]∧([p]:List Addr).Nodup∧∀b∈([p]:List Addr),H b=none∧(upd H1 p (.lst xs)) b≠none∧G1 b=none:=by
 refine ⟨.inl ⟨p,xs,ds,[],rfl,rfl,aw,rfl,dv.own⟩,by simp,λb hb=>?_⟩
 have:b=p:=by simpa using hb
 subst this;exact ⟨x.hh.free hp,(by rw [aw];exact λz=>nomatch z),x.sub.free hp⟩
def Ht(t:fX):fh:=λρ P=>t ρ λds=>ds.length≤sizeLine∧P ds
theorem fJ{es:List Expr}(h:DA Z X es t):DF Z X 1 (.List es pos) (Ht t):=by
 refine (rZ h).imp ?_;rintro σ H Q ⟨G,ρ,P,s,e,h,q⟩;refine ⟨G,ρ,_,s,e,h,?_⟩;rintro ds ⟨hl,hp⟩ vs G1 H1 x1 aT;refine ⟨by rw [aT.length];exact hl,λp iu=>?_⟩
 obtain ⟨o1,o2,o3⟩:=eZ x1 iu aT;exact q _ hp _ _ _ _ (x1.side iu) o1 o2 o3
def yR(te:aK):fh:=λρ P=>te ρ λd=>match d with
 | .lst l=>P l
 | .tup l=>P l
 |_=>False
theorem sW{x:Str}{p:Pos}(hx:x="list")(hg:Gl X x)(hm:X.mg x=none)(hv:bootBuiltins x=some (.type "list"))(ha:DE Z X a ta)(hn:x≠"__name__":=by decide)(gd:(x==("__debug__":Str))=false:=by decide)
  (he:starEach [a] X.env=(false,eval a X.env)::starEach [] X.env:=by rfl) (dJ:(backTo pos (starEach [] X.env)).any (·.1)=false:=by rfl):DF Z X 1 (.Call (.Name x p) [a] [] pos) (yR ta):=by
 refine (pH j0 hg hm hv (cK ha eO he) hn gd he dJ).imp ?_;rintro σ H Q ⟨G,ρ,P,s,e,h,q⟩;refine ⟨G,ρ,_,s,e,h,λd hd v G1 H1 x1 dv=>?_⟩;cases dv<;>first|exact hd.elim|skip
 ·rename_i h e
  refine ⟨_,_,rfl, .inl (bx.of (x1.sub _ _ h)),λp hp=>?_⟩;obtain ⟨o1,o2,o3⟩:=eZ x1 hp e;exact q _ hd _ _ _ _ (x1.side hp) o1 o2 o3
 ·rename_i h e
  refine ⟨_,_,rfl, .inr (dH.of (x1.sub _ _ h)),λp hp=>?_⟩;obtain ⟨o1,o2,o3⟩:=eZ x1 hp e;exact q _ hd _ _ _ _ (x1.side hp) o1 o2 o3
def Hu(t:fX)(tn:aK):fh:=λρ P=>t ρ λds=>ds.length≤sizeLine∧tn ρ λk=>match k with
 | .int k=> -(2^63)≤k∧k<2^63∧ds.length*k.toNat≤sizeLine∧P (List.replicate k.toNat ds).flatten
 |_=>False
theorem AS{es:List Expr}{p2:Pos}(h:DA Z X es t)(hb:DE Z X b te):DF Z X 1 (.BinOp (.List es p2) .Mult b pos) (Hu t te):=by
 refine (r6 wx (rZ h) hb).imp ?_;rintro σ H Q ⟨G,ρ,P,s,e,h,q⟩;refine ⟨G,ρ,_,s,e,h,?_⟩;rintro ds ⟨hl,hp⟩ vs G1 H1 x1 aT;refine ⟨by rw [aT.length];exact hl,λp iu=>?_⟩
 have x2:Ext G H (upd G1 p (.lst vs)) (upd H1 p (.lst vs)):=x1.trans (.new x1.sub iu);refine ⟨_,ρ,_,x2.sub,e.mono x2.gg,hp,λk hk v G3 H3 x3 dv=>?_⟩;cases dv<;>first|exact hk.elim|skip
 obtain ⟨k1,k2,k3,k4⟩:=hk;have Ho:ar Z G3 vs ds:=aT.mono ((aG (x1.sub.free iu) _).trans x3.gg);refine ⟨_,_,_,rfl,rfl,x3.hh _ _ aw,k1,k2,by rw [aT.length];exact k3,λp2 Ba=>?_⟩
 have x:=x2.trans x3;obtain ⟨o1,o2,o3⟩:=eZ x Ba (Ho.rep _);exact q _ k4 _ _ _ _ (x.side Ba) o1 o2 o3
def A2(wi:gU)(g:cW)(tt:bY)(te:aK)(src:List (Option Nat)):fh:=λρ P=>wi ρ λds=>kY g tt te ds (qN src ρ) [] λ_ out=>P out
theorem oY{src:List (Option Nat)}{tt:bY}:∀σ H Q,kv Z 1 (A2 wi g tt te src) σ H Q→Aw (rK Z wi) (oZ Z g) (liftT Z tt) (cB Z te) src σ H Q:=by
 rintro σ H Q ⟨G,ρ,P,s,en,h,q⟩;refine ⟨G,ρ,_,s,en,h,λds hd J G1 H1 x1 it Ad hA=>?_⟩;refine ⟨λi m gE H2=>m=ds.length-i∧i≤ds.length∧∃gD acc,CS Z G1 H1 Ad gD acc gE H2∧kY g tt te (ds.drop i) gD acc λ_ out=>P out,⟨_,rfl,gB _,_,[], .begin x1.sub hA ((en.mono x1.gg).src src),hd⟩,?_⟩;rintro i m gE H2 ⟨rfl,hi,gD,acc,c,hl⟩
 by_cases eX:i<ds.length
 ·obtain ⟨go,turn⟩:=qF hA G1 it i gD acc gE H2 c (λ_ s=>s) eX hl
  exact .inr ⟨go,_,λaD H' n=>⟨ds.length-(i+1),by omega,rfl,eX,n⟩,turn⟩
 ·have e:ds.drop i= []:=wN (by omega)
  rw [e] at hl;obtain ⟨G2,ys,s1,s2,s3,off,gA,oN,aT,en⟩:=c;refine .inl ⟨(it G2 H2 s1 s2 i).2.1 (by omega),q _ hl (.ref Ad) [Ad] G2 H2 ⟨x1.gg.trans s1,s2,x1.hh.trans s3,λb hb hg=>off b (e9 x1.hh hb) (x1.off b hb hg)⟩ (.inl ⟨Ad,ys,acc,[],rfl,rfl,oN,rfl,aT.own⟩) (by simp) λb hb=>?_⟩
  have:b=Ad:=by simpa using hb
  subst this;exact ⟨x1.hh.free hA,(by rw [oN];exact λz=>nomatch z),gA⟩
variable {elt:Expr} {ifs:List Expr} {scope:Scope} {NC:List Str} {src:List (Option Nat)} {tt:bY}
def yv(md:List Nat)(i:Nat)(t:fh):bF:=λE ρ=>t (b7 md ρ) λds=>E.nx (ρ.set i (some (.lst ds)))
theorem mj{n i:Nat}{t:fh}{D':Ends}{E:bT}(hm:md.getD i 0=n)(S:SIx Z B md ρ σ H G fp)(h:t (b7 md ρ) λds=>E.nx (ρ.set i (some (.lst ds))))(M:Meets Z B md rn E D'):kv Z n t σ H λv H'=>D'.nx (σ.set i (some v)) H':=by
 refine ⟨G,_,_,S.ex.sub,S.yP,h,λds hd v f G' H' x o nd nw=>?_⟩;refine M.nx _ hd _ _ ⟨G',_,(S.grow x).qM hm o nd (λb hb=>⟨S.ex.hh.free (nw b hb).1,(nw b hb).2⟩) λb hb j _ hj=>(S.nw j b hj).2.1 (nw b hb).1⟩
theorem dO(i:Nat){n:Nat}{x:Str}{pos':Pos}{t:fh}(hN:X.N.Nodup)(he:DF Z X n e t)(hm:md.getD i 0=n:=by rfl)(hi:X.N[i]? =some x:=by rfl)(hx:Loc X.env.scope x:=by first|exact Or.inl rfl|exact Or.inr rfl)(hs:swapsWith e (some (.Name x pos')) pos.line X.env=pure false:=by rfl)
  (hf:X.fn x=true∨X.env.scope.names.lookup x=some .local:=by first|exact .inl rfl|exact .inr rfl|assumption):DSt Z X md rn (.Assign [.Name x pos'] e pos) (yv md i t):=by
 refine (eQ hN hi hx he hs hf).imp ?_;rintro D σ H ⟨B,ρ,E,⟨G,fp,S⟩,h,M⟩;exact mj hm S h M
theorem qp(i:Nat){x:Str}{px gQ:Pos}(hc:X.calm=true)(hN:X.N.Nodup)(c:bE X scope)(dD:b4 scope X.N src NC)(hi:DI Z X tg iter wi)
  (hg:∀ex s H,DG Z (dq X scope NC ex s H) tg g) (ht:∀ex s H,uA Z (dq X scope NC ex s H) ifs tt) (he:∀ex s H,DE Z (dq X scope NC ex s H) elt te)
  (jq:swapsWith (.ListComp elt [⟨tg,iter,ifs,0⟩] scope pos) (some (.Name x px)) gQ.line X.env=pure true:=by rfl) (hm:md.getD i 0=1:=by rfl) (qd:X.N[i]? =some x:=by rfl) (hx:Loc X.env.scope x:=by first|exact Or.inl rfl|exact Or.inr rfl)
  (hf:X.fn x=true∨X.env.scope.names.lookup x=some .local:=by first|exact .inl rfl|exact .inr rfl|assumption)
  (hs:∀x,foldedSetIterable iter X.env x=pure x:=by intro _;rfl):DSt Z X md rn (.Assign [.Name x px] (.ListComp elt [⟨tg,iter,ifs,0⟩] scope pos) gQ) (yv md i (A2 wi g tt te src)):=by
 refine (jS hc hN qd hx c dD hi hg ht he jq hf hs).imp ?_;rintro D σ H ⟨B,ρ,E,⟨G,fp,S⟩,h,M⟩;exact oY σ H _ (mj hm S h M)
end
section
variable {Z:DC} {X:Cx} {B:Bs} {md:List Nat} {rn:Nat} {ρ:DN} {σ:St} {H G:Hp} {fp:Nat→List Addr} {a e k o:Expr} {ta te tk tp:aK} {pos apos aL p2:Pos}
theorem SIx.mut{i:Nat}{v:V}{d':D}{b:Addr}{c:HO}(S:SIx Z B md ρ σ H G fp)(hi:σ[i]? =some (some v))(hb:b∈fp i)(o:Own Z G (upd H b c) (md.getD i 0) v d' (fp i)):SIx Z B md (ρ.set i (some d')) σ (upd H b c) G fp where
 ex:=by
  obtain ⟨h1,h2,h3⟩:=S.nw i b hb;exact ⟨S.ex.gg,λx u e=>by rw [ay (aM e h3)];exact S.ex.sub _ _ e,λx u e=>by rw [ay (aM e h1)];exact S.ex.hh _ _ e,S.ex.off⟩
 fl:=S.fl
 len:=by rw [fG];exact S.len
 at_:=λj w h=>by
  by_cases z:i=j
  ·subst z
   by_cases hl:i<ρ.length
   ·rw [gw hl] at h
    cases h;exact ⟨v,hi,o⟩
   ·rw [ur (gz hl),gT (gz hl)] at h;cases h
  ·rw [gx z] at h
   obtain ⟨u,hu,ow⟩:=S.at_ j w h;exact ⟨u,hu,ow.keep (.refl _) λx hx=>ay λq=>S.ap i j b z hb (by rw [←q];exact hx)⟩
 nd:=S.nd
 ap:=S.ap
 nw:=λj x hx=>by
  obtain ⟨h1,h2,h3⟩:=S.nw j x hx;refine ⟨h1,?_,h3⟩
  by_cases z:x=b
  ·rw [z,aw];exact λq=>nomatch q
  ·rw [ay z];exact h2
theorem SIx.one{i:Nat}{d:D}(S:SIx Z B md ρ σ H G fp)(hm:md.getD i 0=1)(h:ρ[i]? =some (some d)):∃l xs ds,d= .lst ds∧σ[i]? =some (some (.ref l))∧H l=some (.lst xs)∧ar Z G xs ds∧
  ∀fb cZ,ar Z G fb cZ→SIx Z B md (ρ.set i (some (.lst cZ))) σ (upd H l (.lst fb)) G fp:=by
 obtain ⟨v,hv,o⟩:=S.at_ i d h;rw [hm] at o;obtain ⟨l,xs,ds,fj,rfl,rfl,hl,hf,ol⟩:=o.one;obtain ⟨dv,rfl⟩:=ol.flat;refine ⟨l,xs,ds,rfl,hv,hl,dv,λfb cZ jm=>S.mut hv (by rw [hf];simp) ?_⟩
 rw [hm,hf];exact .inl ⟨l,fb,cZ,[],rfl,rfl,aw,rfl,jm.own⟩
theorem bP.Dt:∀{ys:List V}{fL:List D}{fj:List Addr}(p:Nat){dp:D},bP (Own Z G H 1) ys fL fj→fj.Nodup→fL[p]? =some dp→∃l xs ds,dp= .lst ds∧ys[p]? =some (.ref l)∧H l=some (.lst xs)∧ar Z G xs ds∧l∈fj∧
  ∀fb cZ,ar Z G fb cZ→bP (Own Z G (upd H l (.lst fb)) 1) ys (fL.set p (.lst cZ)) fj
 |_,_,_,_,_, .nil,_,h=>by simp at h
 |_,_,_,0,dp, .cons (f:=f) (fs:=fs) a as,nd,h=>by
  simp at h;subst h;obtain ⟨l,xs,ds,fj,rfl,rfl,hl,hf,ol⟩:=a.one;obtain ⟨dv,rfl⟩:=ol.flat;subst hf;refine ⟨l,xs,ds,rfl,rfl,hl,dv,by simp,λfb cZ jm=> .cons (.inl ⟨l,fb,cZ,[],rfl,rfl,aw,rfl,jm.own⟩) (as.imp λv d f hf r=>r.keep (.refl _) λb hb=>ay λz=>?_)⟩
  have:=(jF.mp nd).1
  exact this (by subst z;exact hf _ hb)
 |_,_,_,p+1,dp, .cons (f:=f) (fs:=fs) a as,nd,h=>by
  obtain ⟨Ru,vj,PN⟩:=jD.mp nd;obtain ⟨l,xs,ds,e1,e2,e3,e4,e5,e6⟩:=bP.Dt p (dp:=dp) as vj (by simpa using h)
  refine ⟨l,xs,ds,e1,by simpa using e2,e3,e4,dg _ e5,λfb cZ jm=>?_⟩
  refine .cons (a.keep (.refl _) λb hb=>ay λz=>?_) (e6 fb cZ jm);exact PN b hb l e5 z
theorem SIx.two{i p:Nat}{fL:List D}{dp:D}(S:SIx Z B md ρ σ H G fp)(hm:md.getD i 0=2)(h:ρ[i]? =some (some (.lst fL)))(hp:fL[p]? =some dp):∃T ys l xs ds,dp= .lst ds∧σ[i]? =some (some (.ref T))∧H T=some (.lst ys)∧ys.length=fL.length∧ys[p]? =some (.ref l)∧H l=some (.lst xs)∧ar Z G xs ds∧
  ∀fb cZ,ar Z G fb cZ→SIx Z B md (ρ.set i (some (.lst (fL.set p (.lst cZ))))) σ (upd H l (.lst fb)) G fp:=by
 obtain ⟨v,hv,o⟩:=S.at_ i _ h;rw [hm] at o;obtain ⟨T,ys,Mv,fj,rfl,e0,hT,hf,ol⟩:=o.lst;cases e0;have nd:=S.nd i;rw [hf] at nd;obtain ⟨nT,vj⟩:=jF.mp nd;obtain ⟨l,xs,ds,e1,e2,e3,e4,e5,e6⟩:=bP.Dt p ol vj hp;refine ⟨T,ys,l,xs,ds,e1,hv,hT,ol.length,e2,e3,e4,λfb cZ jm=>S.mut hv (by rw [hf];exact fg _ e5) ?_⟩
 rw [hm,hf];exact .inl ⟨T,ys,_,fj,rfl,rfl,by rw [ay (λz=>nT (by rw [z];exact e5))];exact hT,rfl,e6 fb cZ jm⟩
theorem ty_list{K:PySem.W.Frag}{l:Addr}{xs:List V}(h:H l=some (.lst xs)):Ce K "list" (.ref l) H:= .inl ⟨rfl,_,bx.of h⟩
def CJ(md:List Nat)(m:Bool)(i:Nat)(te:aK):bF:=λE ρ=>∃ds,ρ[i]? =some (some (.lst ds))∧te (mG md m ρ) λd=>nU m d∧ds.length<sizeLine∧E.nx (ρ.set i (some (.lst (ds++ [d]))))
theorem fK(m:Bool)(i:Nat){x:Str}{px:Pos}(he:DE Z X e te)(hm:md.getD i 0=1:=by rfl)(hi:X.N[i]? =some x:=by rfl)(hv:iK X.env.scope x:=by first|exact Or.inl rfl|exact Or.inr (Or.inl rfl) |exact Or.inr (Or.inr rfl))(hd:(x==("__debug__":Str))=false:=by decide)(cA:(x==("__classdict__":Str))=false:=by decide)
  (cI:attributeBase (.Name x px) "append" X.env (eval (.Name x px) X.env)=eval (.Name x px) X.env:=by rfl)
  (ik:((backTo aL (starEach [e] X.env)).all (λx=>!x.1)&&(backToKw aL (keywordEach [] X.env)).all (λx=>x.1.isSome)&&decide (([e]:List Expr).length+([]:List Keyword).length+(if ([]:List Keyword).isEmpty then 0 else 1)<30))=true:=by rfl)
  (cg:(apos.endLine==aL.line)=true:=by rfl) (hs:starEach [e] X.env=(false,eval e X.env)::starEach [] X.env:=by rfl) (cO:(backTo aL (starEach [] X.env)).any (·.1)=false:=by rfl)
  (jq:swapsWith (.Call (.Attribute (.Name x px) "append" apos) [e] [] aL) none pos.line X.env=pure false:=by rfl):
  DSt Z X md rn (.Expr (.Call (.Attribute (.Name x px) "append" apos) [e] [] aL) pos) (CJ md m i te):=by
 refine (lB (rX PySem.F.plainAttrs_list PySem.F.slot_list_append PySem.F.type_list_append kA (pv i hi hv hd cA) (cK he eO hs) cI ik cg hs cO) jq).imp ?_;rintro D σ H ⟨B,ρ,E,⟨G,fp,S⟩,⟨ds,h1,h⟩,M⟩;obtain ⟨l,xs,_,_,e2,e3,_⟩:=S.one hm h1;refine ⟨_,e2,ty_list e3,S.ev m h λd hd=>⟨hd.1,λv G' H' S' x dv=>?_⟩⟩;obtain ⟨_,h2,h3⟩:=hd;obtain ⟨l',fb,cZ,e1,gG,rz,aT,put⟩:=S'.one hm h1;cases e1;rw [e2] at gG;cases gG;exact ⟨l,fb,v,rfl,rfl,rz,by rw [aT.length];exact h2,M.nx _ h3 _ _ ⟨G',fp,put _ _ (aT.snoc dv)⟩⟩
theorem vW{α:Type}{xs:List α}{i:Int}{j n:Nat}{v:α}(hn:xs.length=n)(h:dZ n i=some j)(e:xs[j]? =some v):cV xs i=some v:=by unfold cV;rw [hn,h];exact e
def AQ(md:List Nat)(m:Bool)(i:Nat)(tk te:aK):bF:=λE ρ=>te (mG md m ρ) λd=>nU m d∧∃ds,ρ[i]? =some (some (.lst ds))∧tk ρ λkk=>∃k j,kk= .int k∧dZ ds.length k=some j∧E.nx (ρ.set i (some (.lst (ds.set j d))))
theorem jK(m:Bool)(i:Nat){x:Str}{px ps:Pos}(hk:DE Z X k tk)(he:DE Z X e te)(hm:md.getD i 0=1:=by rfl)(hi:X.N[i]? =some x:=by rfl)(hv:iK X.env.scope x:=by first|exact Or.inl rfl|exact Or.inr (Or.inl rfl) |exact Or.inr (Or.inr rfl))(hd:(x==("__debug__":Str))=false:=by decide)(cA:(x==("__classdict__":Str))=false:=by decide)
  (ha:∀v,assign (.Subscript (.Name x px) k ps) X.env v=(do
   let ov ←holding [v] (eval (.Name x px) X.env)
   let iv ←holding [v,ov] (eval k X.env)
   standAt ps
   holding [v,ov,iv] (setItem ov iv v)
   release [v,ov,iv] []):=by intro _;rfl)
  (hs:swapsWithSole [.Subscript (.Name x px) k ps] e pos.line X.env=pure false:=by rfl) (hw:swappedStores [.Subscript (.Name x px) k ps] e X.env=pure none:=by rfl)
  (h1:(assignEach [.Subscript (.Name x px) k ps] X.env).map (·.2)= [assign (.Subscript (.Name x px) k ps) X.env]:=by rfl):DSt Z X md rn (.Assign [.Subscript (.Name x px) k ps] e pos) (AQ md m i tk te):=by
 refine (se he (nW (pv i hi hv hd cA) hk set_list ha) hs hw h1).imp ?_;rintro D σ H ⟨B,ρ,E,⟨G,fp,S⟩,h,M⟩;refine S.ev m h λd hd=>⟨hd.1,λv G' H' S' x dv=>?_⟩;obtain ⟨_,ds,h1,h⟩:=hd;obtain ⟨l,xs,_,_,e2,e3,_⟩:=S'.one hm h1;refine ⟨_,e2,S'.ev true h ?_⟩;rintro _ ⟨k,j,rfl,hj,h3⟩;refine ⟨rfl,λv1 G1 H1 S1 x1 uK=>?_⟩;cases uK;obtain ⟨l',fb,cZ,e1,gG,rz,aT,put⟩:=S1.one hm h1;cases e1;rw [e2] at gG;cases gG;exact ⟨l,fb,k,j,rfl,rfl,rz,by rw [aT.length];exact hj,M.nx _ h3 _ _ ⟨G1,fp,put _ _ (aT.set (dv.mono x1.gg) j)⟩⟩
def GR(md:List Nat)(i j:Nat):bF:=λE ρ=>∃ds d,ρ[j]? =some (some (.lst (ds++ [d])))∧E.nx ((ρ.set j (some (.lst ds))).set i (some d))
theorem v8(i j:Nat){x y:Str}{px py:Pos}(hN:X.N.Nodup)(hm:md.getD i 0=0:=by rfl)(xr:md.getD j 0=1:=by rfl)(hi:X.N[i]? =some x:=by rfl)(hx:Loc X.env.scope x:=by first|exact Or.inl rfl|exact Or.inr rfl)
  (hj:X.N[j]? =some y:=by rfl) (hv:iK X.env.scope y:=by first|exact Or.inl rfl|exact Or.inr (Or.inl rfl) |exact Or.inr (Or.inr rfl)) (hd:(y==("__debug__":Str))=false:=by decide) (cA:(y==("__classdict__":Str))=false:=by decide)
  (cI:attributeBase (.Name y py) "pop" X.env (eval (.Name y py) X.env)=eval (.Name y py) X.env:=by rfl) (cg:(apos.endLine==aL.line)=true:=by rfl)
  (hs:swapsWith (.Call (.Attribute (.Name y py) "pop" apos) [] [] aL) (some (.Name x px)) pos.line X.env=pure false:=by rfl)
  (hf:X.fn x=true∨X.env.scope.names.lookup x=some .local:=by first|exact .inl rfl|exact .inr rfl|assumption):DSt Z X md rn (.Assign [.Name x px] (.Call (.Attribute (.Name y py) "pop" apos) [] [] aL) pos) (GR md i j):=by
 refine (eQ hN hi hx (BG PySem.F.plainAttrs_list PySem.F.slot_list_pop PySem.F.type_list_pop Bq (pv j hj hv hd cA) cI cg) hs hf).imp ?_;rintro D σ H ⟨B,ρ,E,⟨G,fp,S⟩,⟨ds,d,h1,h⟩,M⟩;obtain ⟨l,xs,cZ,e1,e2,e3,aT,put⟩:=S.one xr h1;cases e1;have hl:xs.length=ds.length+1:=by rw [aT.length];simp
 obtain ⟨v,zk,dv⟩:=aT.get (i:=xs.length-1) (d:=d) (by rw [hl];simp)
 refine ⟨_,e2,ty_list e3,l,xs,v,rfl,rfl,e3,zk,M.nx _ h _ _ ⟨G,_,(put xs.dropLast ds ?_).pP hm dv⟩⟩
 have:=aT.take ds.length
 rw [List.take_left'] at this
 ·rw [List.dropLast_eq_take,hl];exact this
 ·rfl
theorem SIx.BX{j:Nat}{d:D}(S:SIx Z B md ρ σ H G fp)(h:ρ[j]? =some (some d)):∃v,σ[j]? =some (some v)∧Dv Z (plus G H λb=>b∈fp j) v d∧SIx Z B md (ρ.set j none) σ H (plus G H λb=>b∈fp j) (λk=>if k=j then [] else fp k):=by
 have s:=S.ex.sub;obtain ⟨v,hv,o⟩:=S.at_ j d h;refine ⟨v,hv,o.dv (cw s) λb hb u e=>by rw [iB hb];exact e,?_⟩
 refine ⟨⟨S.ex.gg.trans (cw s),fV s,S.ex.hh,λb hb hg=>?_⟩,S.fl.trans (cw s),by rw [fG];exact S.len,λk c hk=>?_,λk=>by split;exact fH;exact S.nd k,λk k' b ne hk iq=>?_,λk b hb=>?_⟩
 ·rw [eF (λz=>hb (S.nw j b z).1)];exact S.ex.off b hb hg
 ·by_cases z:j=k
  ·subst z
   by_cases hl:j<ρ.length
   ·rw [gw hl] at hk;cases hk
   ·rw [ur (gz hl),gT (gz hl)] at hk;cases hk
  ·rw [gx z] at hk
   obtain ⟨u,hu,ow⟩:=S.at_ k c hk;exact ⟨u,hu,by rw [if_neg (Ne.symm z)];exact ow.keep (cw s) λ_ _=>rfl⟩
 ·split at hk
  ·cases hk
  ·split at iq
   ·cases iq
   ·exact S.ap k k' b ne hk iq
 ·split at hb
  ·cases hb
  ·next z=>
   obtain ⟨h1,h2,h3⟩:=S.nw k b hb;exact ⟨h1,h2,by rw [eF (λw=>S.ap k j b z hb w)];exact h3⟩
def DZ(md:List Nat)(i j:Nat):bF:=λE ρ=>∃ds d,ρ[i]? =some (some (.lst ds))∧ρ[j]? =some (some d)∧ds.length<sizeLine∧E.nx ((ρ.set j none).set i (some (.lst (ds++ [d]))))
theorem yH(i j:Nat){x y:Str}{px py:Pos}(ij:i≠j:=by decide)(hm:md.getD i 0=1:=by rfl)(hj:X.N[j]? =some y:=by rfl)(NB:iK X.env.scope y:=by first|exact Or.inl rfl|exact Or.inr (Or.inl rfl) |exact Or.inr (Or.inr rfl))(MW:(y==("__debug__":Str))=false:=by decide)(HS:(y==("__classdict__":Str))=false:=by decide)(hi:X.N[i]? =some x:=by rfl)(hv:iK X.env.scope x:=by first|exact Or.inl rfl|exact Or.inr (Or.inl rfl) |exact Or.inr (Or.inr rfl))(hd:(x==("__debug__":Str))=false:=by decide)(cA:(x==("__classdict__":Str))=false:=by decide)
  (cI:attributeBase (.Name x px) "append" X.env (eval (.Name x px) X.env)=eval (.Name x px) X.env:=by rfl)
  (ik:((backTo aL (starEach [.Name y py] X.env)).all (λx=>!x.1)&&(backToKw aL (keywordEach [] X.env)).all (λx=>x.1.isSome)&&decide (([.Name y py]:List Expr).length+([]:List Keyword).length+(if ([]:List Keyword).isEmpty then 0 else 1)<30))=true:=by rfl)
  (cg:(apos.endLine==aL.line)=true:=by rfl) (hs:starEach [.Name y py] X.env=(false,eval (.Name y py) X.env)::starEach [] X.env:=by rfl) (cO:(backTo aL (starEach [] X.env)).any (·.1)=false:=by rfl)
  (jq:swapsWith (.Call (.Attribute (.Name x px) "append" apos) [.Name y py] [] aL) none pos.line X.env=pure false:=by rfl):
  DSt Z X md rn (.Expr (.Call (.Attribute (.Name x px) "append" apos) [.Name y py] [] aL) pos) (DZ md i j):=by
 refine (lB (rX PySem.F.plainAttrs_list PySem.F.slot_list_append PySem.F.type_list_append kA (pv i hi hv hd cA) (cK (pv j hj NB MW HS) eO hs) cI ik cg hs cO) jq).imp ?_;rintro D σ H ⟨B,ρ,E,⟨G,fp,S⟩,⟨ds,d,h1,h2,hz,h⟩,M⟩;obtain ⟨v,zk,dv,S'⟩:=S.BX h2;have MK:(ρ.set j none)[i]? =some (some (.lst ds)):=by rw [gx (Ne.symm ij)];exact h1
 obtain ⟨l,xs,cZ,e1,e2,e3,aT,put⟩:=S'.one hm MK;cases e1;exact ⟨_,e2,ty_list e3,_,zk,l,xs,v,rfl,rfl,e3,by rw [aT.length];exact hz,M.nx _ h _ _ ⟨_,_,put _ _ (aT.snoc dv)⟩⟩
end
structure FO (mg:Str→Option Value):Prop where
 len:mg "len"=none
 range:mg "range"=none
 max:mg "max"=none
 min:mg "min"=none
 enumerate:mg "enumerate"=none
 zip:mg "zip"=none
 sorted:mg "sorted"=none
 all:mg "all"=none
 isinstance:mg "isinstance"=none
 int:mg "int"=none
 bool:mg "bool"=none
 list:mg "list"=none
 tuple:mg "tuple"=none
 sum:mg "sum"=none
 reversed:mg "reversed"=none
theorem AM:bootBuiltins "max"=some (.builtin "max"):=by decide+kernel
theorem sH:bootBuiltins "bool"=some (.type "bool"):=by decide+kernel
theorem vX:bootBuiltins "int"=some (.type "int"):=by decide+kernel
theorem h8:bootBuiltins "list"=some (.type "list"):=by decide+kernel
theorem n6:bootBuiltins "sorted"=some (.builtin "sorted"):=by decide+kernel
theorem aZ:bootBuiltins "len"=some (.builtin "len"):=by decide+kernel
section
variable {P:Program} {w:World} {K:PySem.W.Frag} {mg:Str→Option Value} {base:Heap} {Z:DC}
def nX(N:List Str)(ds:List D):DN:=ds.map some++List.replicate (N.length-ds.length) none
def eY(Z:DC)(n:Nat)(sd:cj):Sp:=λvs H Q _=>∃(G:Hp)(ds:List D)(P:D→Prop),aJ G H∧ar Z G vs ds∧sd ds P∧∀d,P d→∀v f G' H',Ext G H G' H'→Own Z G' H' n v d f→f.Nodup→(∀b∈f,H b=none∧H' b≠none∧G' b=none)→Q v H'
theorem Own.pure{n:Nat}{v:V}{d:D}{f:List Addr}{G H G' H':Hp}(x:Ext G H G' H')(o:Own Z G' H' n v d f)(nw:∀b∈f,H b=none∧H' b≠none∧G' b=none):∃G2,Ext G H G2 H'∧Dv Z G2 v d:=by
 refine ⟨plus G' H' λb=>b∈f,⟨x.gg.trans (cw x.sub),fV x.sub,x.hh,λb hb hg=>?_⟩,o.dv (cw x.sub) λb hb u e=>by rw [iB hb];exact e⟩
 rw [eF (λz=>hb (nw b z).1)];exact x.off b hb hg
theorem KD{n:Nat}{sd:cj}:∀vs H Q E,aU Z sd vs H Q E→eY Z n sd vs H Q E:=by
 rintro vs H Q E ⟨G,ds,P,s,dv,h,q⟩;exact ⟨G,ds,P,s,dv,h,λd hd v f G' H' x o nd nw=>let ⟨G2,x2,rk⟩:=o.pure x nw;q d hd v G2 H' x2 rk⟩
theorem jN(rn:Nat){x qual:Str}{st:Stmt}{f:Addr}{fd:FuncData}{N ps:List Str}{k:Nat}{sd:cj}(F:p7 K x qual st f fd)(S:aI N ps (au st))(md:List Nat)(ES:∀i,i<ps.length→md.getD i 0=0)(len:∀ds P,sd ds P→ds.length=ps.length)
  (kn:∀(bc:Value)(A:Around)(outer:List Env)(s:Shared)(H:Hp)(E:XK)(ds:List D)(R:D→Prop),bH k (A.deeper (envOfC qual (au st) s.heap.objs.size f bc))→sd ds R→
   ∃t,DSs Z (mN bS P w K mg base N qual (au st) f bc A outer s H E).ph md rn (cY st) t∧t {nx:=λ_=>rn=0∧R .aN,rt:=R} (nX N ds)):FnOk P w K mg base bS (k+1) f fd ps (eY Z rn sd):=by
 refine F.ok S (λvs H Q E h=>?_) (λbc A outer s H vs Q E hr h=>?_)
 ·obtain ⟨G,ds,R,s,dv,h,q⟩:=h
  rw [dv.length];exact len _ _ h
 obtain ⟨G,ds,R,s0,dv,h,q⟩:=h;have Im:=q;obtain ⟨t,ht,hq⟩:=kn bc A outer s H E ds R hr h;have hl:=len _ _ h;refine ⟨_,ht,⟨G,H,G⟩,_,_,⟨G,λ_=> [],?_⟩,hq,⟨λρ Iw aD H' ⟨G',fp,S'⟩=>q _ Iw.2 _ [] G' H' S'.ex (by rw [Iw.1];exact ⟨.aN,rfl⟩) fH (λb hb=>by cases hb),Im,λ_ z=>z.elim,λ_ z=>z.elim⟩⟩
 refine ⟨.refl s0, .refl _,by unfold nX start;simp [dv.length],λi d hi=>?_,λ_=>fH,(λ_ _ _ _ z=>by cases z),(λ_ _ z=>by cases z)⟩
 unfold nX at hi
 have Ic:i<ds.length:=by
  apply Classical.byContradiction;intro z;rw [i8 (by simpa using gz z),qR] at hi
  split at hi<;>cases hi
 rw [gS (by simpa using Ic),cT] at hi
 have jo:ds[i]? =some d:=by
  cases z:ds[i]? with
  |none=>rw [z] at hi;cases hi
  |some d'=>rw [z] at hi;cases hi;rfl
 obtain ⟨v,hv,jm⟩:=dv.get jo;refine ⟨v,?_,by rw [ES i (by omega)];exact ⟨jm,rfl⟩⟩
 unfold start;rw [gS (by simpa [dv.length] using Ic),cT,hv];rfl
theorem aX{x qual:Str}{st:Stmt}{f:Addr}{fd:FuncData}{N ps:List Str}{k:Nat}{sd:cj}(F:p7 K x qual st f fd)(S:aI N ps (au st))(md:List Nat)(ES:∀i,i<ps.length→md.getD i 0=0)(len:∀ds P,sd ds P→ds.length=ps.length)
  (kn:∀(bc:Value)(A:Around)(outer:List Env)(s:Shared)(H:Hp)(E:XK)(ds:List D)(R:D→Prop),bH k (A.deeper (envOfC qual (au st) s.heap.objs.size f bc))→sd ds R→
   ∃t,DSs Z (mN bS P w K mg base N qual (au st) f bc A outer s H E).ph md 0 (cY st) t∧t {nx:=λ_=>0=0∧R .aN,rt:=R} (nX N ds)):FnOk P w K mg base bS (k+1) f fd ps (aU Z sd):=
 (jN 0 F S md ES len λbc A outer s H E ds R hr h=>let ⟨t,a,b⟩:=kn bc A outer s H E ds R hr h;⟨t,a,b⟩).imp KD
end
section
variable {Z:DC} {X:Cx} {a b c e o:Expr} {ta tb te:aK} {t:fX} {es:List Expr} {pos apos:Pos}
def Du:cj:=λds P=>∃i j,ds= [.int i, .int j]∧P (.int (if j>i then j else i))
theorem AD{G:Hp}{vs:List V}{i j:Int}(h:ar Z G vs [.int i, .int j]):vs= [.int i, .int j]:=by
 cases h with
 |cons a as=>
  cases as with
  |cons b bs=>cases bs;cases a;cases b;rfl
theorem yo(hc:X.calm=true):cU X (.builtin "max") (ku Z Du):=by
 refine (uF hc).imp ?_;rintro xs H Q ⟨G,ds,P,s,dv,⟨i,j,rfl,h⟩,q⟩;exact ⟨i,j,AD dv,q _ h _ G H (.refl s) (.int _)⟩
theorem sZ{G:Hp}:∀{vs:List V}{ns:List Int},ar Z G vs (ns.map D.int)→vs=ns.map V.int
 |vs,[],h=>by cases h;rfl
 |vs,b::bs,h=>by
  cases h with
  |cons a as=>cases a;rw [sZ as];rfl
def pairD(k:Nat×Nat):D:= .tup [.int (k.1:Nat), .int (k.2:Nat)]
def AO(ta tb:aK):aK:=λρ P=>ta ρ λd=>∃l,d= .lst l∧tb ρ λy=>bU y=true∧l.all bU=true∧∃(j:Nat)(z:D),l[j]? =some z∧fC z y=true∧(∀(m:Nat) z,m<j→l[m]? =some z→fC z y=false)∧P (.int (j:Nat))
theorem lU{aL:Pos}(ho:DE Z X o ta)(he:DE Z X e tb)
  (cI:attributeBase o "index" X.env (eval o X.env)=eval o X.env:=by rfl)
  (ik:((backTo aL (starEach [e] X.env)).all (λx=>!x.1)&&(backToKw aL (keywordEach [] X.env)).all (λx=>x.1.isSome)&&decide (([e]:List Expr).length+([]:List Keyword).length+(if ([]:List Keyword).isEmpty then 0 else 1)<30))=true:=by rfl)
  (cg:(apos.endLine==aL.line)=true:=by rfl) (hs:starEach [e] X.env=(false,eval e X.env)::starEach [] X.env:=by rfl) (cO:(backTo aL (starEach [] X.env)).any (·.1)=false:=by rfl):
  DE Z X (.Call (.Attribute o "index" apos) [e] [] aL) (AO ta tb):=by
 refine (rX PySem.F.plainAttrs_list PySem.F.slot_list_index PySem.F.type_list_index xC ho (cK he eO hs) cI ik cg hs cO).imp ?_;rintro σ H Q ⟨G,ρ,P,s,en,h,q⟩;refine ⟨G,ρ,_,s,en,h,?_⟩;rintro _ ⟨l,rfl,hd⟩ v G1 H1 x1 dv;cases dv with
 | @lst p xs ds hp e=>
  refine ⟨ty_list (x1.sub _ _ hp),G1,ρ,_,x1.sub,en.mono x1.gg,hd,λy hy u G2 H2 x2 du=>?_⟩;obtain ⟨h1,h2,j,z,h3,h4,h5,h6⟩:=hy;have e2:=e.mono x2.gg;obtain ⟨w,hw,dw⟩:=e2.get h3;refine ⟨p,xs,u,j,w,rfl,rfl,x2.hh _ _ (x1.sub _ _ hp),by rw [kR du];exact h1,by rw [gM e2];exact h2,hw,by rw [rB dw du];exact h4,λm z' hm hz=>?_,q _ h6 _ G2 H2 (x1.trans x2) (.int _)⟩
  obtain ⟨d',jo,jm⟩:=e2.tw hz;rw [rB jm du];exact h5 m d' hm jo
end
structure ye (Z:DC):Prop where
 cl:p6 Z.K Z.C
 nR:iJ Z.K Z.C "rows"
section
variable {Z:DC} {X:Cx} {a b c e o:Expr} {ta tb te:aK} {t:fX} {es:List Expr} {pos apos:Pos}
def Eb(ta:aK):aK:=λρ P=>ta ρ λd=>∃w,d= .iH w∧P (az w)
theorem yD(T:ye Z)(ha:DE Z X o ta)(eK:X.K=Z.K:=by rfl)(hb:attributeBase o "rows" X.env (eval o X.env)=eval o X.env:=by rfl):DE Z X (.Attribute o "rows" apos) (Eb ta):=by
 refine (BI ha hb).imp ?_;rintro σ H Q ⟨G,ρ,P,s,en,h,q⟩;refine ⟨G,ρ,_,s,en,h,?_⟩;rintro _ ⟨w,rfl,hd⟩ v G1 H1 x1 dv;cases dv with
 | @iH p dx R w hp hr g h1 h2=>exact ⟨p,Z.C,dx,_, .ref R,rfl,x1.sub _ _ hp,by rw [eK];exact T.cl,by rw [eK];exact T.nR,rfl,q _ hd _ G1 H1 x1 hr⟩
def yt(sd:cj)(ta:aK)(t:fX):aK:=λρ P=>ta ρ λd=>∃w,d= .iH w∧t ρ λds=>sd (.iH w::ds) P
theorem xx{m:Str}{sd:cj}(hm:([("rows",V.ref 0)]:List (Str×V)).lookup m=none):∀σ H Q,cB Z (yt sd ta t) σ H Q→Ax Z.C m (aU Z sd) [] E0 (cB Z ta) (vf Z t) σ H Q:=by
 rintro σ H Q ⟨G,ρ,P,s,en,h,q⟩;refine ⟨G,ρ,_,s,en,h,?_⟩;rintro _ ⟨w,rfl,hd⟩ v G1 H1 x1 dv;have Ej:=dv;cases dv with
 | @iH p dx R w hp hr g h1 h2=>
  refine ⟨p,dx,_,rfl,x1.sub _ _ hp,?_,G1,ρ,_,x1.sub,en.mono x1.gg,hd,λds xo vs G2 H2 x2 aT=>?_⟩
  ·have hz:(m==("rows":Str))=false:=by
    cases z:(m==("rows":Str)) with
    |false=>rfl
    |true=>simp [List.lookup,z] at hm
   simp [List.lookup,hz]
  ·show aU Z sd (V.ref p::(vs++ [])) H2 Q E0
   rw [pZ];exact ⟨G2,_,P,x2.sub, .cons (Ej.mono x2.gg) aT,xo,λd hd v G3 H3 x3 Mw=>q d hd v G3 H3 ((x1.trans x2).trans x3) Mw⟩
variable {sd:cj} {k:Nat} {f:Addr} {fd:FuncData} {ps:List Str} {m:Str}
theorem qm{pl:Sem Bool}(T:ye Z)(ho:DE Z X o ta)(hm:Meth Z.K Z.C m f)(F:FnOk X.prog X.w X.K X.mg X.base bS k f fd ps (aU Z sd))(hr:bH k X.A)(hb:Binds X.K fd ps [])(eK:X.K=Z.K:=by rfl)
  (Nh:([("rows",V.ref 0)]:List (Str×V)).lookup m=none:=by decide)
  (ht:eval (.Call (.Attribute o m apos) [] [] pos) X.env=(do
   let ov ←eval o X.env
   standAt apos.atName
   let (f,first) ←holding [ov] (getMethod ov m pl)
   callWith pos f first (backTo pos (starEach [] X.env)) (backToKw pos (keywordEach [] X.env))):=by rfl):DE Z X (.Call (.Attribute o m apos) [] [] pos) (yt sd ta CN):=
 (xF (pl:=pl) ho (by rw [eK];exact T.cl) (by rw [eK];exact hm) F hr hb .nil rW ht).imp λσ H Q h=>by
  obtain ⟨G,ρ,P,s,en,h,q⟩:=xx Nh σ H Q h;refine ⟨G,ρ,P,s,en,h,λd hd v G1 H1 x1 dv=>?_⟩;obtain ⟨p,dx,fs,h1,h2,h3,G',aE,P',s',Q8,h',q'⟩:=q d hd v G1 H1 x1 dv;exact ⟨p,dx,fs,h1,h2,h3,q' _ h' _ G' _ (.refl s') .nil⟩
def ue(Z:DC):Sp:=λvs H Q _=>∃(p dx:Addr)(v:V)(G:Hp)(w:List (List Nat)),vs= [.ref p,v]∧H p=some (.ins Z.C dx [])∧aJ G H∧G p=none∧Dv Z G v (az w)∧Wb.Good w∧1≤w.length∧w.length≤14∧
 ∀(R:Addr)(G' H':Hp),aJ G G'→aJ G' H'→(∀b o,H b=some o→b≠p→H' b=some o)→(∀b,H b≠none→G b=none→G' b=none)→H' p=some (.ins Z.C dx [("rows", .ref R)])→Dv Z G' (.ref R) (az w)→Q .aN H'
def D6(t:fX):aK:=λρ P=>t ρ λds=>∃w,ds= [az w]∧Wb.Good w∧1≤w.length∧w.length≤14∧P (.iH w)
theorem yC{x:Str}{p:Pos}(M:Mk Z.K Z.C f)(F:FnOk X.prog X.w X.K X.mg X.base bS k f fd ps (ue Z))(hr:bH (k+1) X.A)(hg:Gl X x)(hm:X.mg x=some (.ref Z.C))(hb:Binds X.K fd ps [])
  (ha:DA Z X (e::es) t) (eK:X.K=Z.K:=by rfl) (gd:(x==("__debug__":Str))=false:=by decide) (he:starEach (e::es) X.env=(false,eval e X.env)::starEach es X.env:=by rfl) (dJ:(backTo pos (starEach es X.env)).any (·.1)=false:=by rfl):
  DE Z X (.Call (.Name x p) (e::es) [] pos) (D6 t):=by
 refine (zV (by rw [eK];exact M) F hr hg hm hb .nil rW ha gd he dJ).imp ?_
 rintro σ H Q ⟨G,ρ,P,s,en,h,q⟩;refine ⟨G,ρ,_,s,en,h,?_⟩;rintro _ ⟨w,rfl,g,h1,cz,hp⟩ vs G1 H1 x1 aT p dx hx EJ ne;cases aT with
 | @cons v _ _ _ dv aT=>
  cases aT;have zp:upd H1 dx (.own p) p=none:=by rw [ay (Ne.symm ne)];exact hx
  have sJ:=(aG EJ (.own p)).trans (aG zp (.ins Z.C dx []));refine ⟨p,dx,v,G1,w,rfl,aw,x1.sub.trans sJ,x1.sub.free hx,dv,g,h1,cz,λR G2 H2 g1 g2 kp off Ba rk=>⟨rfl,?_⟩⟩;have gp:G2 p=none:=off p (by rw [aw];exact λz=>nomatch z) (x1.sub.free hx)
  refine q _ hp _ (upd G2 p (.ins Z.C dx [("rows", .ref R)])) H2 ⟨(x1.gg.trans g1).trans (aG gp _),λb o e=>?_,λb o e=>?_,λb hb hg=>?_⟩ (.iH aw (rk.mono (aG gp _)) g h1 cz)
  ·by_cases z:b=p
   ·subst z;rw [aw] at e;cases e;exact Ba
   ·rw [ay z] at e;exact g2 _ _ e
  ·have e1:=x1.hh _ _ e
   exact kp b o (sJ _ _ e1) (aM e1 hx)
  ·have HL:=e9 x1.hh hb
   have nb:b≠p:=λz=>HL (by rw [z];exact hx)
   rw [ay nb];exact off b (e9 sJ HL) (x1.off b hb hg)
end
section
variable {Z:DC} {X:Cx} {pos:Pos}
def zx(g:cW)(tf:fh):List D→DN→List D→(List D→Prop)→Prop
 | [],_,acc,N=>N acc
 |x::xs,ρ,acc,N=>g x ρ λbZ=>tf bZ λds=>acc.length<sizeLine∧zx g tf xs bZ (acc++ [.lst ds]) N
def CW(wi:gU)(g:cW)(tf:fh)(src:List (Option Nat)):fh:=λρ P=>wi ρ λds=>zx g tf ds (qN src ρ) [] P
def FP(Z:DC)(n:Nat)(G1 H1:Hp)(Ad:Addr)(ρ:DN)(acc:List D)(σ:St)(H:Hp):Prop:=
 ∃(G:Hp)(ys:List V)(fs:List Addr),aJ G1 G∧aJ G H∧aJ H1 H∧(∀b,H1 b≠none→G1 b=none→G b=none)∧H Ad=some (.lst ys)∧bP (Own Z G H n) ys acc fs∧(Ad::fs).Nodup∧(∀b∈Ad::fs,H1 b=none∧H b≠none∧G b=none)∧b0 Z G σ ρ
theorem bP.snoc{R:V→D→List Addr→Prop}:∀{vs:List V}{ds:List D}{fs:List Addr}{v:V}{d:D}{f:List Addr},bP R vs ds fs→R v d f→bP R (vs++ [v]) (ds++ [d]) (fs++f)
 |_,_,_,v,d,f, .nil,r=>by simpa using bP.cons r .nil
 |_,_,_,v,d,f, .cons a as,r=>by rw [lN];exact .cons a (as.snoc r)
theorem xw{n:Nat}{src:List (Option Nat)}{wi:gU}{g:cW}{tf:fh}:∀σ H Q,kv Z (n+1) (CW wi g tf src) σ H Q→Aw (rK Z wi) (oZ Z g) AA (kv Z n tf) src σ H Q:=by
 rintro σ H Q ⟨G,ρ,P,s,en,h,q⟩;refine ⟨G,ρ,_,s,en,h,λds hd J G1 H1 x1 it Ad hA=>?_⟩;refine ⟨λi m gE H2=>m=ds.length-i∧i≤ds.length∧∃gD acc,FP Z n G1 H1 Ad gD acc gE H2∧zx g tf (ds.drop i) gD acc P,⟨_,rfl,gB _,_,[],⟨G1,[],[], .refl _,λb o e=>?_,aG hA _,λ_ _ h=>h,aw, .nil,by simp,λb hb=>?_,(en.mono x1.gg).src src⟩,hd⟩,?_⟩
 ·rw [ay (aM e (x1.sub.free hA))];exact x1.sub _ _ e
 ·have:b=Ad:=by simpa using hb
  subst this;exact ⟨hA,(by rw [aw];exact λz=>nomatch z),x1.sub.free hA⟩
 rintro i m gE H2 ⟨rfl,hi,gD,acc,⟨G2,ys,fs,s1,s2,s3,off,oN,ol,nd,nw,MB⟩,hl⟩
 by_cases eX:i<ds.length
 ·obtain ⟨go,_,yld⟩:=it G2 H2 s1 s2 i
  refine .inr ⟨go eX,λaD H'=>∃aE gI,FP Z n G1 H1 Ad aE gI aD H'∧zx g tf (ds.drop (i+1)) aE gI P,λaD H' k=>⟨ds.length-(i+1),by omega,rfl,eX,k⟩,λx H3 y=>?_⟩
  obtain ⟨G3,d,x3,EH,dv⟩:=yld x H3 eX y;rw [oE EH] at hl;refine ⟨G3,gD,d,_,x3.sub,MB.mono x3.gg,dv,hl,λbZ h1 je uL=>?_⟩;unfold AA;dsimp only;rw [if_pos rfl];refine ⟨G3,bZ,_,x3.sub,uL,h1,λcZ jo v f G6 H6 x6 ow MF Hw=>?_⟩;have x:=x3.trans x6;have aA:Ad∈Ad::fs:=eH ..
  have me:∀b∈Ad::fs,H6 b=H2 b∧G6 b=none:=λb hb=>by
   obtain ⟨_,q2,q3⟩:=nw b hb;refine ⟨?_,x.off b q2 q3⟩;cases e:H2 b with
   |none=>exact absurd e q2
   |some o=>exact x.hh _ _ e
  have MM:H6 Ad=some (.lst ys):=by rw [(me Ad aA).1];exact oN
  have Hs:∀b∈f,H2 b=none:=λb hb=>x3.hh.free (Hw b hb).1;have Hv:∀b∈f,∀c∈Ad::fs,b≠c:=λb hb c hc z=>(nw c hc).2.1 (by rw [←z];exact Hs b hb)
  refine ⟨ys,MM,by rw [ol.length];exact jo.1,bZ,_,⟨G6,ys++ [v],fs++f,s1.trans x.gg,λb o e=>?_,λb o e=>?_,λb hb hg=>x.off b (e9 s3 hb) (off b hb hg),aw,?_,?_,λb hb=>?_,uL.mono x6.gg⟩,jo.2⟩
  ·rw [ay (aM e (me Ad aA).2)];exact x.sub _ _ e
  ·rw [ay (aM e hA)];exact (s3.trans x.hh) _ _ e
  ·refine bP.snoc (ol.imp λv d f' hf r=>r.keep x.gg λb hb=>?_) (ow.keep (.refl _) λb hb=>?_)
   ·have jb:b∈fs:=hf b hb
    rw [ay (λz=>(jF.mp nd).1 (by rw [←z];exact jb))]
    exact (me b (fg _ jb)).1
   ·exact ay (Hv b hb Ad aA)
  ·rw [←List.cons_append]
   exact jD.mpr ⟨nd,MF,λa ha b hb=>Ne.symm (Hv b hb a ha)⟩
  ·rw [←List.cons_append] at hb
   by_cases z:b=Ad
   ·subst z
    exact ⟨hA,(by rw [aw];exact λz=>nomatch z),(me b aA).2⟩
   ·rcases b9.mp hb with hb|hb
    ·rw [ay z,(me b hb).1]
     exact ⟨(nw b hb).1,(nw b hb).2.1,(me b hb).2⟩
    ·rw [ay z]
     exact ⟨s3.free (Hs b hb),(Hw b hb).2⟩
 ·have e:ds.drop i= []:=wN (by omega)
  rw [e] at hl;refine .inl ⟨(it G2 H2 s1 s2 i).2.1 (by omega),q _ hl (.ref Ad) (Ad::fs) G2 H2 ⟨x1.gg.trans s1,s2,x1.hh.trans s3,λb hb hg=>off b (e9 x1.hh hb) (x1.off b hb hg)⟩ (.inl ⟨Ad,ys,acc,fs,rfl,rfl,oN,rfl,ol⟩) nd λb hb=>⟨x1.hh.free (nw b hb).1,(nw b hb).2⟩⟩
variable {tg iter elt:Expr} {scope:Scope} {NC:List Str} {src:List (Option Nat)} {wi:gU} {g:cW} {tf:fh} {md:List Nat} {rn:Nat}
theorem uH(i:Nat){n:Nat}{x:Str}{px gQ:Pos}(hc:X.calm=true)(hN:X.N.Nodup)(c:bE X scope)(dD:b4 scope X.N src NC)(hi:DI Z X tg iter wi)
  (hg:∀ex s H,DG Z (dq X scope NC ex s H) tg g) (he:∀ex s H,DF Z (dq X scope NC ex s H) n elt tf)
  (jq:swapsWith (.ListComp elt [⟨tg,iter,[],0⟩] scope pos) (some (.Name x px)) gQ.line X.env=pure true:=by rfl) (hm:md.getD i 0=n+1:=by rfl) (qd:X.N[i]? =some x:=by rfl) (hx:Loc X.env.scope x:=by first|exact Or.inl rfl|exact Or.inr rfl)
  (hf:X.fn x=true∨X.env.scope.names.lookup x=some .local:=by first|exact .inl rfl|exact .inr rfl|assumption)
  (hs:∀x,foldedSetIterable iter X.env x=pure x:=by intro _;rfl):DSt Z X md rn (.Assign [.Name x px] (.ListComp elt [⟨tg,iter,[],0⟩] scope pos) gQ) (yv md i (CW wi g tf src)):=by
 refine (jS hc hN qd hx c dD hi hg (λ_ _ _=>t7) he jq hf hs).imp ?_;rintro D σ H ⟨B,ρ,E,⟨G,fp,S⟩,h,M⟩;exact xw σ H _ (mj hm S h M)
end
abbrev fT:=inClass
structure uC (Z:DC) (m qual:Str) (st:Stmt) (ps:List Str) where
 f:Addr
 fd:FuncData
 F:p7 Z.K m qual st f fd
 b:Binds Z.K fd ps []
 m:Meth Z.K Z.C m f
def lG(K:PySem.W.Frag):Sp:=λvs H Q _=>∃(a:Addr)(ns:List Int),vs= [.ref a]∧bx K H a (ns.map V.int)∧ns.length≤63∧∀H',Q (.bl true) H'
def wG:cj:=λds P=>∃ns:List Int,ds= [.e8 ns]∧ns.length≤63∧P (.bl true)
theorem Bl{Z:DC}:∀vs H Q E,lG Z.K vs H Q E→aU Z wG vs H Q E:=by
 rintro vs H Q E ⟨a,ns,rfl,hS,hl,q⟩;exact ⟨H,[.e8 ns],λd=>d= .bl true, .refl _, .cons (.e8 hS hl) .nil,⟨ns,rfl,hl,rfl⟩,λd hd v G' H' x dv=>by subst hd;cases dv;exact q H'⟩
theorem FI(k:Nat){l:PySem.W.OpenLaw}{q:Program}{loose:List Str}{XP:(Str→Option Value)→Heap→Prop}{YP:World→Heap→Prop}{d:DefRec}{K:Params→PySem.W.Frag}(Ie:3*k<150)(hn:l.most=some 63)(uU:d.params.defaults= [])
  (hY:∀(w:World)(h:Heap),YP w h→(K w.params).In h)
  (F:∀(w:World)(mg:Str→Option Value)(fa:Addr)(h:Heap),(K w.params).In h→h.Ns mainGlobals mg→mg d.name=some (.ref fa)→
   ∃fd:FuncData,(∀(s:Shared)(u:Value),BindsTo s fd ⟨[u],[]⟩ [("_law_script",u)])∧∀base:Heap,(K w.params).In base→base.Ns mainGlobals mg→FnOk l.prog w (K w.params) mg base bS k fa fd ["_law_script"] (lG (K w.params))):
  PySem.W.WalkO q loose XP YP l.row.toRowW d [] (λf vs=>PySem.call f vs):=
 L2.AE (n:=63) (k:=50) (x:="_law_script") (CX:=λ_=>bS) (sp:=λw=>lG (K w.params)) hn (by decide) uU ⟨rfl,by decide,by decide⟩ hY (λw mg fa h a b c=>by
  obtain ⟨fd,h1,h2⟩:=F w mg fa h a b c;exact ⟨fd,h1,λbase x y=>(h2 base x y).mono (by omega)⟩) (λ_ _ a ns hl _ hS=>⟨a,ns,rfl,hS,hl,λ_=>rfl⟩) λ_ _ _ _ _ z=>z
theorem bB{c:Bool}{A B:Prop}(h1:c=true→A)(h2:c=false→B):if c=true then A else B:=by
 cases c with
 |true=>exact b6 (h1 rfl)
 |false=>exact cD (h2 rfl)
theorem oU{i:Nat}{tt:bY}{te:aK}{ρ:DN}{α:Type}(enc:α→D)(p:α→Bool)(f:α→D):∀(ys:List α)(aE:DN)(acc:List D)(N:DN→List D→Prop),(∀y∈ys,∀(Y:D→Prop)(Nn:Prop),(p y=true→Y (f y))→(p y=false→Nn)→tt (ρ.set i (some (enc y))) λb=>if b=true then te (ρ.set i (some (enc y))) Y else Nn)→
  (∃o,aE=ρ.set i o)→acc.length+ys.length≤sizeLine→(∀aE,N aE (acc++(ys.filter p).map f))→kY (kO i) tt te (ys.map enc) aE acc N
 | [],aE,acc,N,_,_,_,h=>by
  show N aE acc;simpa using h aE
 |y::ys,aE,acc,N,hs,⟨o,ho⟩,hz,h=>by
  show tt (aE.set i (some (enc y))) _;rw [ho,List.set_set];rw [dW] at hz;refine hs y (eH ..) _ _ (λhp=>⟨by omega,?_⟩) (λhp=>?_)
  ·refine oU enc p f ys _ (acc++ [f y]) N (λz hz=>hs z (fg _ hz)) ⟨_,rfl⟩ (by simp;omega) λp4=>?_
   have:=h p4
   rw [List.filter_cons,hp] at this;simpa using this
  ·refine oU enc p f ys _ acc N (λz hz=>hs z (fg _ hz)) ⟨_,rfl⟩ (by omega) λp4=>?_
   have:=h p4
   rw [List.filter_cons,hp] at this;simpa using this
theorem gN{i:Nat}{te:aK}{ρ:DN}{α:Type}(enc:α→D)(f:α→D)(ys:List α)(N:DN→List D→Prop)(hs:∀y∈ys,∀(Y:D→Prop),Y (f y)→te (ρ.set i (some (enc y))) Y)(h0:ρ[i]? =some none)(hz:ys.length≤sizeLine)(h:∀aE,N aE (ys.map f)):kY (kO i) yA te (ys.map enc) ρ [] N:=by
 refine oU (ρ:=ρ) enc (λ_=>true) f ys ρ [] N (λy hy Y Nn h1 _=>?_) ⟨none,?_⟩ (by simpa using hz) λaE=>by rw [List.filter_eq_self.mpr (λ_ _=>rfl),qT];exact h aE
 ·unfold yA
  dsimp only;rw [if_pos rfl];exact hs y hy Y (h1 rfl)
 ·obtain ⟨hi,e⟩:=dU.mp h0
  rw [←e,List.set_getElem_self]
theorem qu{g:cW}{tb:bF}{E:bT}(I:Nat→DN→Prop):∀(ds:List D)(k:Nat)(ρ:DN),I k ρ→(∀(j:Nat)(d:D)(ρ:DN),ds[j]? =some d→I (k+j) ρ→∀A:DN→Prop,(∀ρ,I (k+j+1) ρ→A ρ)→g d ρ λbZ=>tb {nx:=A,ct:=A,bk:=E.nx,rt:=E.rt} bZ)→
  (∀ρ,I (k+ds.length) ρ→E.nx ρ)→iT g tb E ds ρ
 | [],k,ρ,h0,hs,he=>he ρ h0
 |d::ds,k,ρ,h0,hs,he=>by
  refine hs 0 d ρ rfl h0 _ λaE h'=>?_
  exact qu I ds (k+1) aE h' (λj d' gD hj h2 A hA=>by
   refine hs (j+1) d' gD (by simpa using hj) (by rw [show k+(j+1)=k+1+j by omega];exact h2) A λQQ h3=>hA QQ ?_
   rw [show k+1+j+1=k+(j+1)+1 by omega];exact h3) (λgD h2=>he gD (by rw [dW,show k+(ds.length+1)=k+1+ds.length by omega];exact h2))
theorem bQ{g:cW}{tb:bF}{E:bT}{ds:List D}{ρ:DN}(I:Nat→DN→Prop)(h0:I 0 ρ)(hs:∀(j:Nat)(d:D)(ρ:DN),ds[j]? =some d→I j ρ→∀A:DN→Prop,(∀ρ,I (j+1) ρ→A ρ)→g d ρ λbZ=>tb {nx:=A,ct:=A,bk:=E.nx,rt:=E.rt} bZ)
  (he:∀ρ,I ds.length ρ→E.nx ρ):iT g tb E ds ρ:=qu I ds 0 ρ h0 (λj d ρ hj h A hA=>hs j d ρ hj (by simpa using h) A λaE h'=>hA aE (by simpa using h')) (λρ h=>he ρ (by simpa using h))
theorem yS{g:cW}{tb:bF}{E:bT}{lo:Int}{n:Nat}{ρ:DN}(I:Nat→DN→Prop)(h0:I 0 ρ)(hs:∀(j:Nat)(ρ:DN),j<n→I j ρ→∀A:DN→Prop,(∀ρ,I (j+1) ρ→A ρ)→g (.int (lo+j)) ρ λbZ=>tb {nx:=A,ct:=A,bk:=E.nx,rt:=E.rt} bZ)
  (he:∀ρ,I n ρ→E.nx ρ):iT g tb E (di lo n) ρ:=by
 have l:(di lo n).length=n:=by unfold di;simp
 refine bQ I h0 (λj d ρ hj h A hA=>?_) (λρ h=>he ρ (by rw [l] at h;exact h))
 have eX:j<n:=by
  have:=(dU.mp hj).1
  rw [l] at this;exact this
 rw [mV eX] at hj;cases hj;exact hs j ρ eX h A hA
theorem gu{c:bY}{tb:bF}{E:bT}{ρ:DN}(I:Nat→DN→Prop)(m0:Nat)(h0:I m0 ρ)(hs:∀m ρ,I m ρ→c ρ λb=>if b=true then tb {nx:=λaE=>∃m',m'<m∧I m' aE,ct:=λaE=>∃m',m'<m∧I m' aE,bk:=E.nx,rt:=E.rt} ρ else E.nx ρ):nP c tb E ρ:=⟨I,⟨m0,h0⟩,hs⟩
def FR(K:PySem.W.Frag)(a:Addr)(n:Nat):It:=
 ⟨λi H=>i<n∧∃xs,bx K H a xs∧xs.length=n,λi H x H'=>H'=H∧∀xs,bx K H a xs→xs[n-1-i]? =some x,λi H=>n≤i⟩
theorem x9{P:Program}{w:World}{K:PySem.W.Frag}{tg:Expr}(a it:Addr)(n:Nat):Turn P w K tg (FR K a n) [it] it (λi h=>i≤n∧h.IsRevIter it a ((n:Int)-1-(i:Int))) where
 mem:=by simp
 obj:=λi h st b hb=>by
  have e:b=it:=by simpa using hb
  subst e;obtain ⟨_,o,e,c,d⟩:=st;exact ⟨o,e,λv z=>by rw [d] at z;cases z⟩
 keep:=λi h h' st k=>⟨st.1,st.2.at λo e=>k it (by simp) o e⟩
 item:=by
  intro X hP hw hK hc i pins s σ H E I hf st hg;subst hP hw hK;obtain ⟨hi,xs,hq,hl⟩:=hg;obtain ⟨its,rv,p,hz⟩:=I.list hq;have hlen:=rv.length;have hx:xs[n-1-i]? =some (xs[n-1-i]'(by omega)):=eG (by omega)
  obtain ⟨u,hu,ru⟩:=rv.get hx;obtain ⟨f0,f1,f2,f3,f4,f5⟩:=hf it (by simp)
  have e:(n:Int)-1-(i:Int)=((n-1-i:Nat):Int):=by omega
  obtain ⟨_,st⟩:=st;rw [e] at st;refine wpAny_pyNext_rev_item st p.isList (x:=u) (by simpa using hu) λh' so sb=>?_
  have I1:Inv X pins σ H {s with heap:=h'}:=I.turned (t':=s.toks) (λb o hb e=>(sb.2 b hb).trans e) f0 f1 f3 f4 f5
  have e2:((n-1-i:Nat):Int)-1=(n:Int)-1-((i+1:Nat):Int):=by omega
  rw [e2] at so;obtain ⟨o,e,c,d⟩:=id so;exact ⟨u,rfl,uP (s:={s with heap:=h'}) e c d (by decide) ⟨_,H,I1,ru,⟨rfl,λys hy=>by rw [I.mi hy hq];exact hx⟩,⟨hi,so⟩,λb hb=>(hf b hb).1⟩⟩
 done:=by
  intro X hP hw hK hc i pins s σ H E I hf st hg;subst hP hw hK;obtain ⟨hi,st⟩:=st;have hg:n≤i:=hg;have e:(n:Int)-1-(i:Int)= -1:=by omega
  rw [e] at st;obtain ⟨f0,f1,f2,f3,f4,f5⟩:=hf it (by simp)
  exact wpAny_pyNext_rev_end (I.ok.hd hc) st λh' eb=>⟨rfl,I.turned (t':=s.toks) (λb o hb e=>eb b o hb e) f0 f1 f3 f4 f5⟩
 self:=λ_ _ _ _ _ st h=>wpAny_pyIter_revIter st.2 h
theorem q0:bootBuiltins "reversed"=some (.type "reversed"):=by decide+kernel
section
variable {Z:DC} {X:Cx} {a b c e:Expr} {ta tb te:aK} {t:fX} {pos:Pos}
def Iy(K:PySem.W.Frag)(ta:TA):TI:=λσ H R=>ta σ H λvs H1=>∃a xs,vs= [.ref a]∧bx K H1 a xs∧R (FR K a xs.length) H1
theorem BP{tg:Expr}{ta:TA}{p:Pos}(hg:Gl X "reversed")(hm:X.mg "reversed"=none)(ha:PA X [a] ta)(hs:starEach [a] X.env= [(false,eval a X.env)]:=by rfl):
  PI X tg (.Call (.Name "reversed" p) [a] [] pos) (Iy X.K ta):=by
 intro pins s σ H R I h;refine Call_ (iN I hg hm q0 (PyProof.Rows.callWith_type1 (thn (ha pos pins s σ H _ I h) λus s1 ⟨vs,H1,I1,r1,q1⟩=>?_) hs rfl));obtain ⟨l,xs,e,hl,q⟩:=q1;subst e;obtain ⟨u,rfl,ru⟩:=r1.one;cases ru;obtain ⟨its,rv,p,hz⟩:=I1.list hl;have hlen:=rv.length;refine call_reversed_list p.isList ?_;have hit:(s1.heap.push (revObj l ((its.toArray.size:Int)-1))).IsRevIter s1.heap.objs.size l ((xs.length:Int)-1-((0:Nat):Int)):=⟨_,Heap.get?_push_size _ rfl,rfl,by simp [revObj,hlen]⟩
 refine wpAny_pyIter_revIter hit ?_;refine ⟨s1.heap.objs.size,[s1.heap.objs.size],_,_,H1,rfl,I1.kept (t':=s1.toks) λb o e=>Heap.get?_push_of_some _ e,x9 l _ xs.length,⟨gB _,hit⟩,λb hb=>?_,q⟩;have e:b=s1.heap.objs.size:=by simpa using hb
 subst e;exact I1.wc (bC _) (I1.hok.fresh (bC _))
def Ei(t:fX):gU:=λρ P=>t ρ λds=>match ds with
 | [.lst l]=>P l.reverse
 |_=>False
theorem AW{tg:Expr}{p:Pos}(hg:Gl X "reversed")(hm:X.mg "reversed"=none)(ha:DA Z X [a] t)(hs:starEach [a] X.env= [(false,eval a X.env)]:=by rfl):DI Z X tg (.Call (.Name "reversed" p) [a] [] pos) (Ei t):=by
 refine (BP hg hm ha hs).imp ?_;rintro σ H Q ⟨G,ρ,P,s,en,h,q⟩;refine ⟨G,ρ,_,s,en,h,λds hd vs G1 H1 x1 dv=>?_⟩;cases dv with
 |nil=>exact hd.elim
 |cons a as=>
  cases as with
  |cons _ _=>cases a<;>exact hd.elim
  |nil=>
   cases a<;>first|exact hd.elim|skip
   rename_i p xs ds ha e
   refine ⟨_,xs,rfl,bx.of (x1.sub _ _ ha),q _ hd _ G1 H1 x1 ?_⟩;intro G2 H2 s1 s2 i;have h2:=bx.of (K:=X.K) (s2 _ _ (s1 _ _ ha));have l:=e.length;rw [List.length_reverse];refine ⟨λhi=>⟨by omega,xs,h2,rfl⟩,λhi=>(show xs.length≤i by omega),?_⟩
   rintro x H' hi ⟨rfl,hx⟩;obtain ⟨d,jo,jm⟩:=e.tw (hx _ h2);refine ⟨G2,d, .refl s2,?_,jm.mono s1⟩;rw [List.getElem?_reverse hi,←l];exact jo
variable {md:List Nat} {rn:Nat} {k:Expr} {tk:aK}
variable {apos aL:Pos}
variable {es:List Expr}
def yQ(sd:cj)(t:fX):fh:=λρ P=>t ρ λas=>sd as λd=>∃ds,d= .lst ds∧P ds
theorem yE{n:Nat}{sd:cj}{k:Nat}{f:Addr}{fd:FuncData}{ps:List Str}{x:Str}{p:Pos}(F:FnOk X.prog X.w X.K X.mg X.base bS k f fd ps (eY Z n sd))(hr:bH k X.A)(hg:Gl X x)(hm:X.mg x=some (.ref f))(hk:PySem.W.keepIn X.K (.ref f)=true)(hb:Binds X.K fd ps [])
  (ha:DA Z X (e::es) t) (gd:(x==("__debug__":Str))=false:=by decide) (he:starEach (e::es) X.env=(false,eval e X.env)::starEach es X.env:=by rfl) (dJ:(backTo pos (starEach es X.env)).any (·.1)=false:=by rfl):
  DF Z X n (.Call (.Name x p) (e::es) [] pos) (yQ sd t):=by
 refine (tW F hr hg hm hk hb .nil rW ha gd he dJ).imp ?_;rintro σ H Q ⟨G,ρ,P,s,en,h,q⟩;refine ⟨G,ρ,_,s,en,h,λds hd vs G1 H1 x1 aT=>?_⟩;show eY Z n sd (vs++ []) H1 Q E0;rw [pZ];refine ⟨G1,ds,_,x1.sub,aT,hd,?_⟩;rintro _ ⟨cZ,rfl,hp⟩ v f G2 H2 x2 o nd nw;exact q _ hp v f G2 H2 (x1.trans x2) o nd λb hb=>⟨x1.hh.free (nw b hb).1,(nw b hb).2⟩
end
section
variable {X:Cx} {elt t0 i0 t1 i1:Expr} {f0 f1:List Expr} {scope:Scope} {pos:Pos} {wi K2:TI} {g g1:TG} {tt K1:TT} {te:TE} {src:List (Option Nat)} {NC:List Str}
end
section
variable {Z:DC} {X:Cx} {md:List Nat} {rn:Nat} {elt t0 i0 t1 i1:Expr} {f0 f1:List Expr} {scope:Scope} {pos:Pos} {wi K2:gU} {g g1:cW} {tt K1:bY} {te:aK} {src:List (Option Nat)} {NC:List Str}
end
section
variable {Z:DC} {X:Cx} {md:List Nat} {rn:Nat} {e:Expr} {pos:Pos}
def yw(i:Nat)(t:fh):bF:=λE ρ=>t ρ λds=>ds.all bU=true∧E.nx (ρ.set i (some (.lst ds)))
theorem ar.flat{G G':Hp}:∀{vs:List V}{ds:List D},ar Z G vs ds→ds.all bU=true→ar Z G' vs ds
 |_,_, .nil,_=> .nil
 |_,_, .cons a as,h=>by
  rw [List.all_cons,pX] at h;exact .cons (a.flat h.1) (as.flat h.2)
theorem kP(i:Nat){x:Str}{pos':Pos}{t:fh}(hN:X.N.Nodup)(he:DF Z X 1 e t)(hm:md.getD i 0=1:=by rfl)(hi:X.N[i]? =some x:=by rfl)(hx:Loc X.env.scope x:=by first|exact Or.inl rfl|exact Or.inr rfl)(hs:swapsWith e (some (.Name x pos')) pos.line X.env=pure false:=by rfl)
  (hf:X.fn x=true∨X.env.scope.names.lookup x=some .local:=by first|exact .inl rfl|exact .inr rfl|assumption):DSt Z X md rn (.Assign [.Name x pos'] e pos) (yw i t):=by
 refine (eQ hN hi hx he hs hf).imp ?_;rintro D σ H ⟨B,ρ,E,⟨G,fp,S⟩,h,M⟩;refine ⟨H,ρ,_, .refl _,S.mP,h,?_⟩;rintro ds ⟨y8,hd⟩ v f G' H' x o nd nw;have x':=Ext.all S.ex.sub x;have S':=S.grow x';obtain ⟨a,xs,cZ,fj,rfl,e1,ha,uV,ol⟩:=o.lst;cases e1;obtain ⟨dv,rfl⟩:=ol.flat;have hb:H a=none:=(nw a (by rw [uV];simp)).1
 refine M.nx _ hd _ _ ⟨G,_,S'.qM (f:= [a]) hm (.inl ⟨a,xs,ds,[],rfl,rfl,ha,rfl,(dv.flat y8).own⟩) (by simp) (λb jb=>?_) λb jb j _ hj=>?_⟩
 ·have:b=a:=by simpa using jb
  subst this;exact ⟨S.ex.hh.free hb,(nw b (by rw [uV];simp)).2.1,S.ex.sub.free hb⟩
 ·have:b=a:=by simpa using jb
  subst this;exact (S.nw j b hj).2.1 hb
end
theorem kj{l:List D}{j:Nat}{d:D}(h:(jn l)[j]? =some d):∃x,l[j]? =some x∧d= .tup [.int (j:Int),x]:=by
 unfold jn at h;rw [List.getElem?_mapIdx] at h;cases e:l[j]? with
 |none=>rw [e] at h;cases h
 |some x=>rw [e] at h;cases h;exact ⟨x,rfl,rfl⟩
theorem cn{α β:Type}{f:α→β}{l:List α}{j:Nat}{y:β}(h:(l.map f)[j]? =some y):∃x,l[j]? =some x∧y=f x:=by
 rw [cT] at h;cases e:l[j]? with
 |none=>rw [e] at h;cases h
 |some x=>rw [e] at h;cases h;exact ⟨x,rfl,rfl⟩
theorem bN(r:List Nat):(r.map ae).all bU=true:=by simp [ae,bU]
theorem jr{r:List Nat}{p:Nat}:inD (ae p) (r.map ae)=decide (p∈r):=by
 unfold inD;rw [List.any_map]
 have:((λy=>fC y (ae p))∘ae)=λq:Nat=>decide (q=p):=by
  funext q
  simp [ae,fC,Function.comp]
  by_cases z:q=p
  ·simp [z]
  ·have:¬(q:Int)=(p:Int):=by omega
   simp [z,this]
 rw [this]
 by_cases h:p∈r
 ·rw [decide_eq_true h,List.any_eq_true];exact ⟨p,h,by simp⟩
 ·rw [decide_eq_false h]
  apply pW.mpr;intro z;rw [List.any_eq_true] at z;obtain ⟨q,hq,e⟩:=z
  exact h (by have:q=p:=by simpa using e
              rw [←this];exact hq)
theorem dB{l:List D}{p:Nat}{d:D}(h:l[p]? =some d):cV l (p:Int)=some d:=sE h
theorem lI{w:List (List Nat)}{p:Nat}(h:p<w.length):(w.map aq)[p]? =some (aq (Wb.row w p)):=by
 rw [cT,Wb.Af h];rfl
section
variable {Z:DC} {X:Cx} {md:List Nat} {rn:Nat} {e:Expr} {te:aK} {pos:Pos}
end
theorem ID{c:Bool}{A B:Prop}(e:c=true)(h:A):if c=true then A else B:=by rw [if_pos e];exact h
theorem IE{c:Bool}{A B:Prop}(e:c=false)(h:B):if c=true then A else B:=by rw [if_neg (by rw [e];exact b8)];exact h
theorem jO{g:cW}{tt:bY}{te:aK}{α:Type}(I:DN→Prop)(enc:α→D)(p:α→Bool)(f:α→D):∀(ys:List α)(aE:DN)(acc:List D)(N:DN→List D→Prop),(∀y∈ys,∀aE,I aE→∀(Y:DN→D→Prop)(Nn:DN→Prop),(∀bZ,I bZ→p y=true→Y bZ (f y))→(∀bZ,I bZ→p y=false→Nn bZ)→g (enc y) aE λbZ=>tt bZ λb=>if b=true then te bZ (Y bZ) else Nn bZ)→
  I aE→acc.length+ys.length≤sizeLine→(∀aE,I aE→N aE (acc++(ys.filter p).map f))→kY g tt te (ys.map enc) aE acc N
 | [],aE,acc,N,_,hI,_,h=>by
  show N aE acc;simpa using h aE hI
 |y::ys,aE,acc,N,hs,hI,hz,h=>by
  rw [dW] at hz;refine hs y (eH ..) aE hI (λbZ d=>acc.length<sizeLine∧kY g tt te (ys.map enc) bZ (acc++ [d]) N) (λbZ=>kY g tt te (ys.map enc) bZ acc N) (λbZ h1 hp=>⟨by omega,?_⟩) (λbZ h1 hp=>?_)
  ·refine jO I enc p f ys _ (acc++ [f y]) N (λz hz=>hs z (fg _ hz)) h1 (by simp;omega) λp4 h2=>?_
   have:=h p4 h2
   rw [List.filter_cons,hp] at this;simpa using this
  ·refine jO I enc p f ys _ acc N (λz hz=>hs z (fg _ hz)) h1 (by omega) λp4 h2=>?_
   have:=h p4 h2
   rw [List.filter_cons,hp] at this;simpa using this
theorem fD{α:Type}{us:List α}(h:us.length=1):∃a0,us= [a0]:=by
 cases us with
 |nil=>cases h
 |cons a l=>
  cases l with
  |nil=>exact ⟨a,rfl⟩
  |cons _ _=>cases h
theorem kZ{α:Type}{us:List α}(h:us.length=2):∃a0 a1,us= [a0,a1]:=by
 cases us with
 |nil=>cases h
 |cons a l=>
  obtain ⟨a1,rfl⟩:=fD (Nat.succ.inj h);exact ⟨a,a1,rfl⟩
theorem tM{α:Type}{us:List α}(h:us.length=3):∃a0 a1 a2,us= [a0,a1,a2]:=by
 cases us with
 |nil=>cases h
 |cons a l=>
  obtain ⟨a1,a2,rfl⟩:=kZ (Nat.succ.inj h);exact ⟨a,a1,a2,rfl⟩
theorem zy{α:Type}{us:List α}(h:us.length=4):∃a0 a1 a2 a3,us= [a0,a1,a2,a3]:=by
 cases us with
 |nil=>cases h
 |cons a l=>
  obtain ⟨a1,a2,a3,rfl⟩:=tM (Nat.succ.inj h);exact ⟨a,a1,a2,a3,rfl⟩
section
variable {Z:DC} {X:Cx} {e:Expr} {es:List Expr} {t:fX} {pos:Pos}
theorem aB{sd:cj}{k j:Nat}{x:Str}{st:Stmt}{ps:List Str}{p:Pos}(d:dY X.K X.mg x st ps)(F:FnOk X.prog X.w X.K X.mg X.base bS k d.f d.fd ps (aU Z sd))(hr:bH j X.A)(ha:DA Z X (e::es) t)(hg:Gl X x:=by rfl)(hk:k≤j:=by first|decide|omega)
  (gd:(x==("__debug__":Str))=false:=by decide) (he:starEach (e::es) X.env=(false,eval e X.env)::starEach es X.env:=by rfl) (dJ:(backTo pos (starEach es X.env)).any (·.1)=false:=by rfl):
  DE Z X (.Call (.Name x p) (e::es) [] pos) (ou sd t):=yB F (hr.mono hk) hg d.m d.F.kp d.b ha gd he dJ
theorem lV{n:Nat}{sd:cj}{k j:Nat}{x:Str}{st:Stmt}{ps:List Str}{p:Pos}(d:dY X.K X.mg x st ps)(F:FnOk X.prog X.w X.K X.mg X.base bS k d.f d.fd ps (eY Z n sd))(hr:bH j X.A)(ha:DA Z X (e::es) t)(hg:Gl X x:=by rfl)(hk:k≤j:=by first|decide|omega)
  (gd:(x==("__debug__":Str))=false:=by decide) (he:starEach (e::es) X.env=(false,eval e X.env)::starEach es X.env:=by rfl) (dJ:(backTo pos (starEach es X.env)).any (·.1)=false:=by rfl):
  DF Z X n (.Call (.Name x p) (e::es) [] pos) (yQ sd t):=yE F (hr.mono hk) hg d.m d.F.kp d.b ha gd he dJ
theorem lS{scope:Scope}(sc:Scope)(e:X.env.scope=sc:=by rfl)(k:scope.kind= .function:=by rfl)(a:∀x∈scope.names,x.2= .local→scope.names.lookup x.1=some .local:=by decide+kernel)(b:∀x∈scope.names,x.2≠ .cell:=by decide+kernel)
  (c:∀x∈scope.names,x.2= .free→sc.names.lookup x.1=some .cell∨sc.names.lookup x.1=some .free:=by decide+kernel):bE X scope:=bE.of sc e k a b c
end
section
variable {K:PySem.W.Frag} {h:Heap} {mg:Str→Option Value}
abbrev fi(K:PySem.W.Frag)(x:Str)(d:Addr):Prop:=PySem.W.nsIn K mainGlobals x=some (some (.ref d))
abbrev cX(K:PySem.W.Frag)(x qual:Str)(st:Stmt)(d:Addr)(od an:Option Addr)(sl:Array (Option Value))(oc kV dc pm cd ct:Value):Prop:=K.lookup d=some ⟨oc,od, .func (PySem.W.fnOf x qual (fY st) (cY st) (au st) .none kV dc pm an cd ct),sl⟩
def dY.of{x:Str}{st:Stmt}{ps:List Str}{d:Addr}{od an:Option Addr}{sl:Array (Option Value)}{oc kV dc pm cd ct:Value}(X:K.In h)(G:h.Ns mainGlobals mg)(a:fi K x d)(l:cX K x x st d od an sl oc kV dc pm cd ct)(c:PySem.W.codeIn K cd x=true)(k:PySem.W.keepIn K (.ref d)=true)
  (b:∀(kV doc pm:Value)(an:Option Addr)(bc ct:Value)(us:List Value),us.length=ps.length→bindArgs (PySem.W.fnOf x x (fY st) (cY st) (au st) .none kV doc pm an bc ct) ⟨us,[]⟩=pure (ps.zip us)):dY K mg x st ps:=
 ⟨d,_,kT l c k,(kT l c k).binds b,PySem.W.mg_of X G a⟩
def uC.of{Z:DC}{m qual:Str}{st:Stmt}{ps:List Str}{d:Addr}{od an:Option Addr}{sl:Array (Option Value)}{oc kV dc pm cd ct:Value}(a:PySem.W.findIn Z.K (.ref Z.C) m=some (some (.ref d)))(f:PySem.W.isFn Z.K (.ref d)=true)(l:cX Z.K m qual st d od an sl oc kV dc pm cd ct)(c:PySem.W.codeIn Z.K cd qual=true)(k:PySem.W.keepIn Z.K (.ref d)=true)
  (b:∀(kV doc pm:Value)(an:Option Addr)(bc ct:Value)(us:List Value),us.length=ps.length→bindArgs (PySem.W.fnOf m qual (fY st) (cY st) (au st) .none kV doc pm an bc ct) ⟨us,[]⟩=pure (ps.zip us)):uC Z m qual st ps:=
 ⟨d,_,kT l c k,(kT l c k).binds b,⟨a,f,k⟩⟩
end
end L2
namespace Wb
structure RI (w:W) (bs:List Bool) (ws ex:List Nat) (c:Nat):Prop where
 len:bs.length=w.length
 z:bs[0]? =some true
 wt:∀x∈ws,bs[x]? =some true
 cl:∀x,bs[x]? =some true→x∈ws∨x∈ex∨∀q∈row w x,bs[q]? =some true
 cnt:bs.count false+ws.length≤c
theorem RI.pop{w:W}{bs:List Bool}{ws:List Nat}{p c:Nat}(h:RI w bs (ws++ [p]) [] (c+1)):RI w bs ws [p] c:=
 ⟨h.len,h.z,λx hx=>h.wt x (fc _ hx),λx hx=>by
  rcases h.cl x hx with q|q|q
  ·rcases b9.mp q with q|q
   ·exact .inl q
   ·exact .inr (.inl q)
  ·cases q
  ·exact .inr (.inr q),by have:=h.cnt;rw [cu] at this;simp at this;omega⟩
theorem RI.push{w:W}{bs:List Bool}{ws ex:List Nat}{q c:Nat}(h:RI w bs ws ex c)(hq:bs[q]? =some false):RI w (bs.set q true) (ws++ [q]) ex c:=by
 obtain ⟨hl,he⟩:=dU.mp hq
 have up:∀x,bs[x]? =some true→(bs.set q true)[x]? =some true:=λx hx=>by
  rw [ni]
  by_cases e:q=x
  ·rw [if_pos e,if_pos hl]
  ·rw [if_neg e];exact hx
 refine ⟨by rw [fG];exact h.len,up _ h.z,λx hx=>?_,λx hx=>?_,?_⟩
 ·rcases b9.mp hx with z|z
  ·exact up _ (h.wt x z)
  ·have:x=q:=by simpa using z
   rw [this,ni,if_pos rfl,if_pos hl]
 ·by_cases e:q=x
  ·exact .inl (by rw [e];simp)
  ·rw [ni,if_neg e] at hx
   rcases h.cl x hx with z|z|z
   ·exact .inl (fc _ z)
   ·exact .inr (.inl z)
   ·exact .inr (.inr λy hy=>up _ (z y hy))
 ·have hc:=h.cnt
  have:0<bs.count false:=List.count_pos_iff.mpr (by rw [←he];exact pY hl)
  rw [List.count_set hl,he,cu];simp;omega
theorem RI.close{w:W}{bs:List Bool}{ws:List Nat}{p c:Nat}(h:RI w bs ws [p] c)(hp:∀q∈row w p,bs[q]? =some true):RI w bs ws [] c:=
 ⟨h.len,h.z,h.wt,λx hx=>by
  rcases h.cl x hx with q|q|q
  ·exact .inl q
  ·have:x=p:=by simpa using q
   rw [this];exact .inr (.inr hp)
  ·exact .inr (.inr q),h.cnt⟩
theorem RI.all{w:W}{bs:List Bool}{c:Nat}(g:Good w)(h:RI w bs [] [] c):bs=List.replicate w.length true:=by
 have:=mK g (S:=λx=>bs[x]? =some true) h.z λp q hp hq=>by
  rcases h.cl p hp with z|z|z
  ·cases z
  ·cases z
  ·exact z q hq
 refine List.ext_getElem? λi=>?_
 by_cases hi:i<w.length
 ·rw [this i hi,qR,if_pos hi]
 ·rw [gT (by rw [h.len];omega),gT (by simp;omega)]
end Wb
namespace yb
open PySem L2 Wb
def top(i:Nat):Stmt:=PySem.Challenge.pw_mapdye_k51_chains.main.body.getD i (.Pass ⟨0,0,0,0⟩)
abbrev pN:Stmt:=top 9
abbrev ju:Stmt:=top 12
abbrev gj:Stmt:=top 13
abbrev hZ:Stmt:=top 14
abbrev gr:Stmt:=top 15
abbrev hV:Stmt:=top 16
abbrev bK:Stmt:=top 17
abbrev gk:Stmt:=top 18
abbrev gq:Stmt:=top 19
abbrev fu:Stmt:=top 22
abbrev fw:Stmt:=top 23
abbrev hC:Stmt:=top 24
abbrev hJ:Stmt:=top 25
abbrev dR:Stmt:=top 26
abbrev eS:Stmt:=top 27
abbrev jt:Stmt:=top 28
abbrev eU:Stmt:=top 29
abbrev cL:Stmt:=top 30
abbrev g9:Stmt:=top 32
abbrev dm:Stmt:=top 33
abbrev hU:Stmt:=top 34
abbrev fQ:Stmt:=top 35
abbrev dj:Stmt:=top 36
abbrev pO:Stmt:=top 37
abbrev cp:Stmt:=L2.fT (top 20) 0
abbrev mX:Stmt:=L2.fT (top 20) 1
abbrev fP:Stmt:=L2.fT (top 20) 2
abbrev mZ:Stmt:=L2.fT (top 20) 3
abbrev mY:Stmt:=L2.fT (top 20) 4
abbrev j4:Stmt:=L2.fT (top 20) 5
theorem qL:aI ["web","dyeing","p","dye","turns","pair","met","waiting","q"] ["web","dyeing","p","dye"] (au pN):=⟨rfl,rfl,rfl,by decide+kernel,rfl,by decide+kernel,by decide+kernel⟩
theorem lE:aI ["thing","many"] ["thing","many"] (au ju):=⟨rfl,rfl,rfl,by decide+kernel,rfl,by decide+kernel,by decide+kernel⟩
theorem iY:aI ["rows","p","row","q"] ["rows"] (au gj):=⟨rfl,rfl,rfl,by decide+kernel,rfl,by decide+kernel,by decide+kernel⟩
theorem jC:aI ["rows","p","row"] ["rows"] (au hZ):=⟨rfl,rfl,rfl,by decide+kernel,rfl,by decide+kernel,by decide+kernel⟩
theorem i7:aI ["rows","p","row","place","q"] ["rows"] (au gr):=⟨rfl,rfl,rfl,by decide+kernel,rfl,by decide+kernel,by decide+kernel⟩
theorem jB:aI ["rows","p","row","q"] ["rows"] (au hV):=⟨rfl,rfl,rfl,by decide+kernel,rfl,by decide+kernel,by decide+kernel⟩
theorem dS:aI ["rows","reached","waiting","p","q"] ["rows"] (au bK):=⟨rfl,rfl,rfl,by decide+kernel,rfl,by decide+kernel,by decide+kernel⟩
theorem iZ:aI ["rows","q","reached"] ["rows"] (au gk):=⟨rfl,rfl,rfl,by decide+kernel,rfl,by decide+kernel,by decide+kernel⟩
theorem i6:aI ["rows","fault"] ["rows"] (au gq):=⟨rfl,rfl,rfl,by decide+kernel,rfl,by decide+kernel,by decide+kernel⟩
theorem iD:aI ["_law_script","_law_k"] ["_law_script","_law_k"] (au fu):=⟨rfl,rfl,rfl,by decide+kernel,rfl,by decide+kernel,by decide+kernel⟩
theorem iF:aI ["_law_cell","_law_k","_law_number"] ["_law_cell","_law_k"] (au fw):=⟨rfl,rfl,rfl,by decide+kernel,rfl,by decide+kernel,by decide+kernel⟩
theorem jw:aI ["_law_script","_law_at","_law_many","_law_cell","_law_found","_law_first","_law_k","_law_number"] ["_law_script","_law_at","_law_many"] (au hC):=⟨rfl,rfl,rfl,by decide+kernel,rfl,by decide+kernel,by decide+kernel⟩
theorem jy:aI ["_law_turns","_law_sides","_law_found","_law_p","_law_q","_law_row","_law_side","_law_turn"] ["_law_turns"] (au hJ):=⟨rfl,rfl,rfl,by decide+kernel,rfl,by decide+kernel,by decide+kernel⟩
theorem iX:aI ["_law_land","_law_number","_law_first","_law_found","_law_k"] ["_law_land","_law_number"] (au dR):=⟨rfl,rfl,rfl,by decide+kernel,rfl,by decide+kernel,by decide+kernel⟩
theorem jx:aI ["_law_turns","_law_land","_law_places_here","_law_made","_law_around","_law_at","_law_turn","_law_place"] ["_law_turns","_law_land","_law_places_here"] (au eS):=⟨rfl,rfl,rfl,by decide+kernel,rfl,by decide+kernel,by decide+kernel⟩
theorem lD:aI ["_law_draws_here","_law_turns","_law_number","_law_rows","_law_land"] ["_law_draws_here"] (au jt):=⟨rfl,rfl,rfl,by decide+kernel,rfl,by decide+kernel,by decide+kernel⟩
theorem jz:aI ["_law_turns","_law_draws_here","_law_names","_law_k","_law_at","_law_found","_law_p","_law_turn"] ["_law_turns","_law_draws_here"] (au eU):=⟨rfl,rfl,rfl,by decide+kernel,rfl,by decide+kernel,by decide+kernel⟩
theorem iW:aI ["_law_turns","_law_draws_here","_law_dyes_here","_law_none","_law_found","_law_p","_law_taken","_law_free"] ["_law_turns","_law_draws_here","_law_dyes_here","_law_none"] (au cL):=⟨rfl,rfl,rfl,by decide+kernel,rfl,by decide+kernel,by decide+kernel⟩
theorem jv:aI ["_law_turns","_law_dyeing_here","_law_p","_law_dye","_law_found","_law_at","_law_q"] ["_law_turns","_law_dyeing_here","_law_p","_law_dye"] (au g9):=⟨rfl,rfl,rfl,by decide+kernel,rfl,by decide+kernel,by decide+kernel⟩
theorem iG:aI ["_law_turns","_law_number","_law_found","_law_turn","_law_at"] ["_law_turns","_law_number"] (au dm):=⟨rfl,rfl,rfl,by decide+kernel,rfl,by decide+kernel,by decide+kernel⟩
theorem jA:aI ["_law_found"] ["_law_found"] (au hU):=⟨rfl,rfl,rfl,by decide+kernel,rfl,by decide+kernel,by decide+kernel⟩
theorem j6:aI ["_law_cell","_law_many","_law_low"] ["_law_cell"] (au fQ):=⟨rfl,rfl,rfl,by decide+kernel,rfl,by decide+kernel,by decide+kernel⟩
theorem iE:aI ["_law_found","_law_due"] ["_law_found","_law_due"] (au dj):=⟨rfl,rfl,rfl,by decide+kernel,rfl,by decide+kernel,by decide+kernel⟩
theorem wC:aI ["_law_script","_law_turns","_law_dyes_here","_law_dyeing_here","_law_p","_law_others","_law_dye","_law_web_here","_law_handed","_law_found","_law_due"] ["_law_script"] (au pO):=⟨rfl,rfl,rfl,by decide+kernel,rfl,by decide+kernel,by decide+kernel⟩
theorem iC:aI ["self","turns","rows","fault"] ["self","turns"] (au cp):=⟨rfl,rfl,rfl,by decide+kernel,rfl,by decide+kernel,by decide+kernel⟩
theorem j5:aI ["self"] ["self"] (au fP):=⟨rfl,rfl,rfl,by decide+kernel,rfl,by decide+kernel,by decide+kernel⟩
structure Txt (Z:DC) (mg:Str→Option Value) where
 B:FO mg
 x_set:mg "set"=none
 d_chain:dY Z.K mg "chain" pN ["web","dyeing","p","dye"]
 d_is_among:dY Z.K mg "is_among" ju ["thing","many"]
 d_alien_fault:dY Z.K mg "alien_fault" gj ["rows"]
 d_self_fault:dY Z.K mg "self_fault" hZ ["rows"]
 d_twice_fault:dY Z.K mg "twice_fault" gr ["rows"]
 d_lone_fault:dY Z.K mg "lone_fault" hV ["rows"]
 d_reached_from_first:dY Z.K mg "reached_from_first" bK ["rows"]
 d_apart_fault:dY Z.K mg "apart_fault" gk ["rows"]
 d_first_fault:dY Z.K mg "first_fault" gq ["rows"]
 d__law_cell_at:dY Z.K mg "_law_cell_at" fu ["_law_script","_law_k"]
 d__law_reserve:dY Z.K mg "_law_reserve" fw ["_law_cell","_law_k"]
 d__law_draws:dY Z.K mg "_law_draws" hC ["_law_script","_law_at","_law_many"]
 d__law_lands:dY Z.K mg "_law_lands" hJ ["_law_turns"]
 d__law_places:dY Z.K mg "_law_places" dR ["_law_land","_law_number"]
 d__law_grown:dY Z.K mg "_law_grown" eS ["_law_turns","_law_land","_law_places_here"]
 d__law_web:dY Z.K mg "_law_web" jt ["_law_draws_here"]
 d__law_named:dY Z.K mg "_law_named" eU ["_law_turns","_law_draws_here"]
 d__law_dyeing:dY Z.K mg "_law_dyeing" cL ["_law_turns","_law_draws_here","_law_dyes_here","_law_none"]
 d__law_chain:dY Z.K mg "_law_chain" g9 ["_law_turns","_law_dyeing_here","_law_p","_law_dye"]
 d__law_twisted:dY Z.K mg "_law_twisted" dm ["_law_turns","_law_number"]
 d__law_whole:dY Z.K mg "_law_whole" hU ["_law_found"]
 d__law_dyes:dY Z.K mg "_law_dyes" fQ ["_law_cell"]
 d__law_is_list:dY Z.K mg "_law_is_list" dj ["_law_found","_law_due"]
 d_law:dY Z.K mg "law" pO ["_law_script"]
 W:ye Z
 mC:mg "Web"=some (.ref Z.C)
 i_f:Addr
 i_fd:FuncData
 i_F:p7 Z.K "__init__" "Web.__init__" cp i_f i_fd
 mkW:Mk Z.K Z.C i_f
 m___init__b:Binds Z.K i_fd ["self","turns"] []
 m_many:uC Z "many" "Web.many" mX ["self"]
 m_turns:uC Z "turns" "Web.turns" fP ["self"]
 m_ties:uC Z "ties" "Web.ties" mZ ["self"]
 m_tied:uC Z "tied" "Web.tied" mY ["self","a","b"]
 m_behind:uC Z "behind" "Web.behind" j4 ["self","p","q"]
 c_MOST_POINTS:∃tk,mg "MOST_POINTS"=some (.int 14 tk)
variable {P:Program} {w:World} {mg:Str→Option Value} {base:Heap} {Z:DC} (T:Txt Z mg)
def Al:cj:=λds P=>∃(i n:Int),ds= [.int i, .int n]∧P (.bl (decide (0≤i∧i<n)))
theorem rT:FnOk P w Z.K mg base bS 1 T.d_is_among.f T.d_is_among.fd ["thing","many"] (aU Z Al):=by
 have nd:=lE.nd;refine aX T.d_is_among.F lE [0,0] (by decide) (λds R h=>by obtain ⟨_,_,rfl,_⟩:=h;rfl) (λbc A outer s H E ds R hr h=>?_)
 have hu:=hr.units;refine ⟨_,(ao (aO (jJ (kM "int" (aa 0) rfl T.B.isinstance rfl T.B.int vX) (jJ (v3 (kM "bool" (aa 0) rfl T.B.isinstance rfl T.B.bool sH)) (nQ (xa vq rO av (aa 0) (aa 1))))))),?_⟩;obtain ⟨i,n,rfl,q⟩:=h;refine ⟨_,rfl,rfl,true,rfl,b6 ⟨_,rfl,rfl,false,rfl,true,rfl,b6 ⟨_,rfl,?_⟩⟩⟩;refine ⟨_,rfl,bB (λh0=>⟨_,rfl,?_⟩) (λh0=>?_)⟩
 ·have h0:0≤i:=of_decide_eq_true h0
  show R (.bl (decide (i<n)));rw [show decide (i<n)=decide (0≤i∧i<n) by simp [h0]]
  exact q
 ·have h0:¬0≤i:=of_decide_eq_false h0
  rw [show decide (0≤i∧i<n)=false by simp [h0]] at q
  exact q
def jT:cj:=λds P=>∃(w:W),ds= [az w]∧Good w∧1≤w.length∧w.length≤14∧P .aN
theorem wJ{w:W}{j:Nat}{d:D}(h:(jn (w.map aq))[j]? =some d):j<w.length∧d= .tup [.int (j:Int),aq (row w j)]:=by
 obtain ⟨x,hx,rfl⟩:=kj h;obtain ⟨r,hr,rfl⟩:=cn hx;have hj:j<w.length:=(dU.mp hr).1;refine ⟨hj,?_⟩;rw [BZ hr]
theorem nI:FnOk P w Z.K mg base bS 2 T.d_alien_fault.f T.d_alien_fault.fd ["rows"] (aU Z jT):=by
 have nd:=iY.nd;refine aX T.d_alien_fault.F iY [0,0,0,0] (by decide) (λds R h=>by obtain ⟨_,rfl,_⟩:=h;rfl) (λbc A outer s H E ds R hr h=>?_)
 have hu:=hr.units
 refine ⟨_,(ag (dh rfl PassesOwn.never (ic rfl T.B.enumerate (ab (aa 0) ah)) (jM 2 rfl (bM (aR 1 nd) (bM (aR 2 nd) fR))) (ao (dh rfl PassesOwn.never (bD (aa 2)) (aR 3 nd) (ao (bA (jL (gK (aB T.d_is_among (rT T) hr (ab (aa 3) (ab (aF ba rfl T.B.len aZ (ab (aa 0) ah)) ah))))) (ao (aO (eJ (ab kN (ab (aa 1) (ab (aa 3) ah)))))) aQ)))))
   (ao (aO cC))),?_⟩
 obtain ⟨w',rfl,g,h1,cz,q⟩:=h;refine ⟨_,rfl,bQ (λ_ ρ=>∃o1 o2 o3,ρ= [some (az w'),o1,o2,o3]) ⟨_,_,_,rfl⟩ ?_ ?_⟩
 ·rintro j d _ hd ⟨o1,o2,o3,rfl⟩ A hA
  obtain ⟨hj,rfl⟩:=wJ hd;refine ⟨rfl,rfl,?_⟩;refine ⟨_,rfl,bQ (λ_ ρ=>∃o3,ρ= [some (az w'),some (.int (j:Int)),some (aq (row w' j)),o3]) ⟨_,rfl⟩ ?_ ?_⟩
  ·rintro k d' _ hk ⟨o4,rfl⟩ A' yY
   obtain ⟨x,hx,rfl⟩:=cn hk;refine ⟨_,rfl,_,rfl,_,_,rfl,⟨rfl,?_⟩⟩;have eX:x<w'.length:=g.rng _ _ (ee hx);rw [show decide ((0:Int)≤(x:Int)∧(x:Int)<((w'.map aq).length:Int))=true by simp;omega]
   exact cD (yY _ ⟨_,rfl⟩)
  ·rintro _ ⟨o4,rfl⟩
   exact hA _ ⟨_,_,_,rfl⟩
 ·rintro _ ⟨o1,o2,o3,rfl⟩
  exact q
theorem pF:FnOk P w Z.K mg base bS 1 T.d_self_fault.f T.d_self_fault.fd ["rows"] (aU Z jT):=by
 have nd:=jC.nd;refine aX T.d_self_fault.F jC [0,0,0] (by decide) (λds R h=>by obtain ⟨_,rfl,_⟩:=h;rfl) (λbc A outer s H E ds R hr h=>?_)
 have hu:=hr.units
 refine ⟨_,(ag (dh rfl PassesOwn.never (ic rfl T.B.enumerate (ab (aa 0) ah)) (jM 2 rfl (bM (aR 1 nd) (bM (aR 2 nd) fR))) (ao (bA (aP rN (aa 1) (aa 2) (by with_unfolding_all rfl)) (ao (aO (eJ (ab kN (ab (aa 1) (ab (aa 1) ah)))))) aQ)))
   (ao (aO cC))),?_⟩
 obtain ⟨w',rfl,g,h1,cz,q⟩:=h;refine ⟨_,rfl,bQ (λ_ ρ=>∃o1 o2,ρ= [some (az w'),o1,o2]) ⟨_,_,rfl⟩ ?_ ?_⟩
 ·rintro j d _ hd ⟨o1,o2,rfl⟩ A hA
  obtain ⟨hj,rfl⟩:=wJ hd;refine ⟨rfl,rfl,?_⟩;refine ⟨_,rfl,_,rfl,rfl,bN _,_,rfl,?_⟩
  have e:inD (.int (j:Int)) ((row w' j).map ae)=false:=by
   have:=jr (r:=row w' j) (p:=j)
   rw [decide_eq_false (g.irr j)] at this;exact this
  rw [if_neg b8,e];exact cD (hA _ ⟨_,_,rfl⟩)
 ·rintro _ ⟨o1,o2,rfl⟩
  exact q
theorem iL{α:Type}(l:List α)(k:Nat)(h:k≤l.length):cutD l none (some (k:Int))=l.take k:=by
 unfold cutD;have e1:HT.bo l.length 0 none=0:=rfl
 have e2:HT.bo l.length l.length (some (k:Int))=k:=by
  simp only [HT.bo]
  split<;>omega
 rw [e1,e2];simp
theorem nK:FnOk P w Z.K mg base bS 1 T.d_twice_fault.f T.d_twice_fault.fd ["rows"] (aU Z jT):=by
 have nd:=i7.nd;refine aX T.d_twice_fault.F i7 [0,0,0,0,0] (by decide) (λds R h=>by obtain ⟨_,rfl,_⟩:=h;rfl) (λbc A outer s H E ds R hr h=>?_)
 have hu:=hr.units
 refine ⟨_,(ag (dh rfl PassesOwn.never (ic rfl T.B.enumerate (ab (aa 0) ah)) (jM 2 rfl (bM (aR 1 nd) (bM (aR 2 nd) fR))) (ao (dh rfl PassesOwn.never (ic rfl T.B.enumerate (ab (aa 2) ah)) (jM 2 rfl (bM (aR 3 nd) (bM (aR 4 nd) fR))) (ao (bA (aP rN (aa 4) (eB (aa 2) fZ (f7 (aa 3))) (by with_unfolding_all rfl)) (ao (aO (eJ (ab kN (ab (aa 1) (ab (aa 4) ah)))))) aQ)))))
   (ao (aO cC))),?_⟩
 obtain ⟨w',rfl,g,h1,cz,q⟩:=h;refine ⟨_,rfl,bQ (λ_ ρ=>∃o1 o2 o3 o4,ρ= [some (az w'),o1,o2,o3,o4]) ⟨_,_,_,_,rfl⟩ ?_ ?_⟩
 ·rintro j d _ hd ⟨o1,o2,o3,o4,rfl⟩ A hA
  obtain ⟨hj,rfl⟩:=wJ hd;refine ⟨rfl,rfl,?_⟩;refine ⟨_,rfl,bQ (λ_ ρ=>∃o3 o4,ρ= [some (az w'),some (.int (j:Int)),some (aq (row w' j)),o3,o4]) ⟨_,_,rfl⟩ ?_ ?_⟩
  ·rintro k d' _ hk ⟨o5,o6,rfl⟩ A' yY
   obtain ⟨y,hy,rfl⟩:=kj hk;obtain ⟨x,hx,rfl⟩:=cn hy;have iq:k<(row w' j).length:=(dU.mp hx).1;refine ⟨rfl,rfl,?_⟩;refine ⟨_,rfl,_,rfl,_,rfl,?_⟩;have ec:cutD ((row w' j).map ae) none (some (k:Int))=((row w' j).take k).map ae:=by rw [iL _ _ (by simp;omega),qV]
   refine (?_:AN false (ae x) (.lst (cutD ((row w' j).map ae) none (some (k:Int)))) _);rw [ec];refine ⟨rfl,bN _,_,rfl,?_⟩
   have e:inD (ae x) (((row w' j).take k).map ae)=false:=by
    rw [jr,decide_eq_false];intro z;obtain ⟨m,hm⟩:=uv z
    have uY:m<k:=by
     have:=(dU.mp hm).1
     rw [jE] at this;omega
    rw [wL uY] at hm;exact absurd ((List.getElem?_inj (by omega) (g.nod j)).mp (hm.trans hx.symm)) (by omega)
   rw [if_neg b8,e];exact cD (yY _ ⟨_,_,rfl⟩)
  ·rintro _ ⟨o5,o6,rfl⟩
   exact hA _ ⟨_,_,_,_,rfl⟩
 ·rintro _ ⟨o1,o2,o3,o4,rfl⟩
  exact q
theorem pE:FnOk P w Z.K mg base bS 1 T.d_lone_fault.f T.d_lone_fault.fd ["rows"] (aU Z jT):=by
 have nd:=jB.nd;refine aX T.d_lone_fault.F jB [0,0,0,0] (by decide) (λds R h=>by obtain ⟨_,rfl,_⟩:=h;rfl) (λbc A outer s H E ds R hr h=>?_)
 have hu:=hr.units
 refine ⟨_,(ag (dh rfl PassesOwn.never (ic rfl T.B.enumerate (ab (aa 0) ah)) (jM 2 rfl (bM (aR 1 nd) (bM (aR 2 nd) fR))) (ao (dh rfl PassesOwn.never (bD (aa 2)) (aR 3 nd) (ao (bA (aP jQ (aa 1) (aS (aa 0) (aa 3)) (by with_unfolding_all rfl)) (ao (aO (eJ (ab kN (ab (aa 1) (ab (aa 3) ah)))))) aQ)))))
   (ao (aO cC))),?_⟩
 obtain ⟨w',rfl,g,h1,cz,q⟩:=h;refine ⟨_,rfl,bQ (λ_ ρ=>∃o1 o2 o3,ρ= [some (az w'),o1,o2,o3]) ⟨_,_,_,rfl⟩ ?_ ?_⟩
 ·rintro j d _ hd ⟨o1,o2,o3,rfl⟩ A hA
  obtain ⟨hj,rfl⟩:=wJ hd;refine ⟨rfl,rfl,?_⟩;refine ⟨_,rfl,bQ (λ_ ρ=>∃o3,ρ= [some (az w'),some (.int (j:Int)),some (aq (row w' j)),o3]) ⟨_,rfl⟩ ?_ ?_⟩
  ·rintro k d' _ hk ⟨o4,rfl⟩ A' yY
   obtain ⟨x,hx,rfl⟩:=cn hk;have Iv:=ee hx;have eX:x<w'.length:=g.rng _ _ Iv;refine ⟨_,rfl,_,rfl,_,rfl,_,dB (lI eX),rfl,bN _,_,rfl,?_⟩
   have e:inD (.int (j:Int)) ((row w' x).map ae)=true:=by
    have:=jr (r:=row w' x) (p:=j)
    rw [decide_eq_true (g.sym _ _ Iv)] at this;exact this
   rw [if_pos rfl,e];exact cD (yY _ ⟨_,rfl⟩)
  ·rintro _ ⟨o4,rfl⟩
   exact hA _ ⟨_,_,_,rfl⟩
 ·rintro _ ⟨o1,o2,o3,rfl⟩
  exact q
def oj(bs:List Bool):List D:=bs.map D.bl
theorem yk{bs:List Bool}{i:Nat}{b:Bool}(h:bs[i]? =some b):(oj bs)[i]? =some (.bl b):=by unfold oj;rw [cT,h];rfl
theorem sM(bs:List Bool)(i:Nat)(b:Bool):(oj bs).set i (.bl b)=oj (bs.set i b):=by unfold oj;rw [qX]
theorem sL(bs:List Bool):(oj bs).length=bs.length:=aV _
theorem qB{n k:Nat}(h:k<n):dZ n (k:Int)=some k:=by unfold dZ;rw [if_pos (by omega),if_pos (by omega)];simp
def vG:cj:=λds P=>∃(w:W),ds= [az w]∧Good w∧1≤w.length∧w.length≤14∧P (.lst (oj (List.replicate w.length true)))
theorem iO:FnOk P w Z.K mg base bS 1 T.d_reached_from_first.f T.d_reached_from_first.fd ["rows"] (aU Z vG):=by
 have nd:=dS.nd;refine aX T.d_reached_from_first.F dS [0,1,1,0,0] (by decide) (λds R h=>by obtain ⟨_,rfl,_⟩:=h;rfl) (λbc A outer s H E ds R hr h=>?_)
 have hu:=hr.units
 refine ⟨_,(ag (qp 1 (NC:= ["row"]) (src:= [none]) rfl nd (lS (au bK)) trivial (bD (aa 0)) (λ_ _ _=>(b5 0 (show (["row"]:List Str).Nodup from by decide+kernel))) (λ_ _ _=>eW) (λ_ _ _=>lT))
   (ag (jK false 1 av lT)
   (ag (dO 2 nd (fJ (ab av ah)))
   (ag (ie PassesOwn.never (gK (aa 2)) (ag (v8 3 2 nd)
   (ao (dh rfl PassesOwn.never (bD (aS (aa 0) (aa 3))) (aR 4 nd) (ao (bA (jL (gK (aS (aa 1) (aa 4)))) (ag (jK false 1 (aa 4) lT)
   (ao (fK false 2 (aa 4)))) aQ))))))
   (ao (aO (aa 1))))))),?_⟩
 obtain ⟨w',rfl,g,h1,cz,q⟩:=h;refine ⟨_,rfl,gN (ρ:= [none]) aq (λ_=> .bl false) w' _ (λy hy Y h=>h) rfl (small (by omega)) λaE=>?_⟩
 have e0:w'.map (λ_=>D.bl false)=oj (List.replicate w'.length false):=by unfold oj;rw [List.map_replicate,List.map_const']
 rw [e0];refine ⟨trivial,_,rfl,0,0,rfl,by rw [sL,pT];exact qB (k:=0) (by omega),?_⟩
 rw [sM];refine ⟨by show 1≤sizeLine;decide,?_⟩
 refine gu (λm ρ=>∃(bs:List Bool)(ws:List Nat)(o3 o4:Option D),ρ= [some (az w'),some (.lst (oj bs)),some (.lst (ws.map ae)),o3,o4]∧RI w' bs ws [] m∧m≤14∧bs.count false+ws.length=m) w'.length ?_ ?_
 ·refine ⟨_,[0],none,none,rfl,⟨by simp,?_,?_,λx hx=>?_,?_⟩,cz,?_⟩
  ·rw [ni,if_pos rfl,if_pos (by rw [pT];omega)]
  ·intro x hx
   have:x=0:=by simpa using hx
   rw [this,ni,if_pos rfl,if_pos (by rw [pT];omega)]
  ·by_cases e:0=x
   ·exact .inl (by rw [←e];simp)
   ·rw [ni,if_neg e,qR] at hx
    split at hx<;>cases hx
  ·rw [List.count_set (by rw [pT];omega),List.count_replicate_self,List.getElem_replicate]
   simp;omega
  ·rw [List.count_set (by rw [pT];omega),List.count_replicate_self,List.getElem_replicate]
   simp;omega
 ·rintro m _ ⟨bs,ws,o3,o4,rfl,ri,hc,HV⟩
  refine ⟨_,rfl,rfl,?_⟩
  rcases List.eq_nil_or_concat ws with rfl| ⟨lL,p,e⟩
  ·refine cD ?_
   have e:=ri.all g;rw [←e] at q;exact ⟨_,rfl,q⟩
  ·rw [List.concat_eq_append] at e
   subst e;rw [show qO (.lst ((lL++ [p]).map ae))=true by simp [qO]]
   refine b6 ?_;rw [cu] at HV;simp only [lM] at HV;obtain ⟨c',rfl⟩:∃c',m=c'+1:=⟨m-1,by omega⟩
   have Qv:=ri.pop;have hp:bs[p]? =some true:=ri.wt p (by simp)
   have Nu:p<w'.length:=by rw [←ri.len];exact (dU.mp hp).1
   refine ⟨lL.map ae,ae p,by rw [cE];rfl,?_⟩
   refine ⟨_,rfl,_,rfl,_,dB (lI Nu),bQ (λj ρ=>∃(kJ:List Bool)(qj:List Nat)(o4:Option D),ρ= [some (az w'),some (.lst (oj kJ)),some (.lst (qj.map ae)),some (ae p),o4]∧RI w' kJ qj [p] c'∧(∀k y,k<j→(row w' p)[k]? =some y→kJ[y]? =some true)∧kJ.count false+qj.length=c') ?_ ?_ ?_⟩
   ·exact ⟨bs,lL,_,rfl,Qv,(λk n hk=>by omega),by omega⟩
   ·rintro j x _ hx ⟨kJ,qj,o5,rfl,Ae,v5,Dx⟩ A hA
    obtain ⟨n,hn,rfl⟩:=cn hx;have Nk:=g.rng _ _ (ee hn);have ET:n<kJ.length:=by rw [Ae.len];exact Nk
    have y2:kJ[n]? =some (kJ[n]):=eG ET;refine ⟨_,rfl,_,rfl,_,dB (yk y2),rfl,?_⟩;generalize kJ[n]=bn at y2;cases bn with
    |true=>
     refine cD (hA _ ⟨kJ,qj,_,rfl,Ae,λk y hk hy=>?_,Dx⟩)
     by_cases e:k=j
     ·rw [e,hn] at hy;cases hy;exact y2
     ·exact v5 k y (by omega) hy
    |false=>
     refine b6 ?_;refine ⟨trivial,_,rfl,_,rfl,_,n,rfl,by rw [sL];exact qB ET,?_⟩
     rw [sM];have BY:=Ae.push y2;have QV:=BY.cnt;refine ⟨_,rfl,_,rfl,trivial,bI (by rw [aV];omega),?_⟩
     have er:qj.map ae++ [ae n]=(qj++ [n]).map ae:=by rw [cE];rfl
     rw [er];refine hA _ ⟨kJ.set n true,qj++ [n],_,rfl,BY,λk y hk hy=>?_,?_⟩
     ·rw [ni]
      by_cases e:n=y
      ·rw [if_pos e,if_pos ET]
      ·rw [if_neg e]
       refine v5 k y ?_ hy;apply Classical.byContradiction;intro z
       have:k=j:=by omega
       rw [this,hn] at hy;cases hy;exact e rfl
     ·obtain ⟨hl,he⟩:=dU.mp y2
      have:0<kJ.count false:=List.count_pos_iff.mpr (by rw [←he];exact pY hl)
      rw [List.count_set hl,he,cu];simp;omega
   ·rintro _ ⟨kJ,qj,o5,rfl,Ae,v5,Dx⟩
    have BY:=Ae.close λy hy=>by
     obtain ⟨k,hk⟩:=uv hy;exact v5 k y (by rw [aV];exact (dU.mp hk).1) hk
    exact ⟨c',by omega,kJ,qj,_,_,rfl,BY,by omega,Dx⟩
theorem nJ:FnOk P w Z.K mg base bS 2 T.d_apart_fault.f T.d_apart_fault.fd ["rows"] (aU Z jT):=by
 have nd:=iZ.nd;refine aX T.d_apart_fault.F iZ [0,0,0] (by decide) (λds R h=>by obtain ⟨_,rfl,_⟩:=h;rfl) (λbc A outer s H E ds R hr h=>?_)
 have hu:=hr.units
 refine ⟨_,(ag (dh rfl PassesOwn.never (ic rfl T.B.enumerate (ab (aB T.d_reached_from_first (iO T) hr (ab (aa 0) ah)) ah)) (jM 2 rfl (bM (aR 1 nd) (bM (aR 2 nd) fR))) (ao (bA (jL (gK (aa 2))) (ao (aO (eJ (ab kN (ab av (ab (aa 1) ah)))))) aQ)))
   (ao (aO cC))),?_⟩
 obtain ⟨w',rfl,g,h1,cz,q⟩:=h;refine ⟨_,rfl,w',rfl,g,h1,cz,bQ (λ_ ρ=>∃o1 o2,ρ= [some (az w'),o1,o2]) ⟨_,_,rfl⟩ ?_ ?_⟩
 ·rintro j d _ hd ⟨o1,o2,rfl⟩ A hA
  obtain ⟨y,hy,rfl⟩:=kj hd
  have ey:y= .bl true:=by
   obtain ⟨b,hb,rfl⟩:=cn hy
   have:=ee hb
   rw [List.mem_replicate] at this;rw [this.2]
  subst ey;refine ⟨rfl,rfl,?_⟩;exact ⟨_,rfl,rfl,cD (hA _ ⟨_,_,rfl⟩)⟩
 ·rintro _ ⟨o1,o2,rfl⟩
  exact q
theorem iU:FnOk P w Z.K mg base bS 3 T.d_first_fault.f T.d_first_fault.fd ["rows"] (aU Z jT):=by
 have nd:=i6.nd;refine aX T.d_first_fault.F i6 [0,0] (by decide) (λds R h=>by obtain ⟨_,rfl,_⟩:=h;rfl) (λbc A outer s H E ds R hr h=>?_)
 have hu:=hr.units
 refine ⟨_,(ag (aC false 1 nd (aB T.d_alien_fault (nI T) hr (ab (aa 0) ah)))
   (ag (bA (aP pw (aa 1) cC (bf _)) (ao (aC false 1 nd (aB T.d_self_fault (pF T) hr (ab (aa 0) ah)))) aQ)
   (ag (bA (aP pw (aa 1) cC (bf _)) (ao (aC false 1 nd (aB T.d_twice_fault (nK T) hr (ab (aa 0) ah)))) aQ)
   (ag (bA (aP pw (aa 1) cC (bf _)) (ao (aC false 1 nd (aB T.d_lone_fault (pE T) hr (ab (aa 0) ah)))) aQ)
   (ag (bA (aP pw (aa 1) cC (bf _)) (ao (aC false 1 nd (aB T.d_apart_fault (nJ T) hr (ab (aa 0) ah)))) aQ)
   (ao (aO (aa 1)))))))),?_⟩
 obtain ⟨w',rfl,g,h1,cz,q⟩:=h;have no:∀(u:bF)(E:bT)(ρ:DN)(te:aK),ρ[1]? =some (some .aN)→E.nx ρ→ox (rh (w9 (yr false) (yz 1) (dC .aN))) u kg E ρ→True:=λ_ _ _ _ _ _ _=>trivial;refine ⟨_,rfl,w',rfl,g,h1,cz,trivial,?_⟩;refine ⟨_,rfl,_,rfl,b6 ⟨_,rfl,w',rfl,g,h1,cz,trivial,?_⟩⟩;refine ⟨_,rfl,_,rfl,b6 ⟨_,rfl,w',rfl,g,h1,cz,trivial,?_⟩⟩;refine ⟨_,rfl,_,rfl,b6 ⟨_,rfl,w',rfl,g,h1,cz,trivial,?_⟩⟩;refine ⟨_,rfl,_,rfl,b6 ⟨_,rfl,w',rfl,g,h1,cz,trivial,?_⟩⟩;exact ⟨_,rfl,q⟩
theorem mn{P:Program}{w:World}{mg:Str→Option Value}{base:Heap}{Z:DC}(T:Txt Z mg):FnOk P w Z.K mg base bS 4 T.i_f T.i_fd ["self","turns"] (ue Z):=by
 have yV:=iU (P:=P) (w:=w) (base:=base) T;have nd:=iC.nd;refine T.i_F.ok iC (λvs H Q E h=>?_) (λbc A outer s H vs Q E hr h=>?_)
 ·obtain ⟨p,dx,v,G,w',rfl,_⟩:=h;rfl
 obtain ⟨p,dx,v,G,w',rfl,hp,sG,gp,dv,g,h1,cz,q⟩:=h;have hu:=hr.units
 refine ⟨_,dE (t:=ky Z [0,0,0,0] 0 _)
   (bA (jL (xg vq vq av (aF ba rfl T.B.len aZ (ab (aa 1) ah)) (xb rfl T.c_MOST_POINTS))) (ao qo) aQ)
  (dE (t:=ky Z [0,0,0,0] 0 _)
   (qq 2 (NC:= ["row"]) (src:= [none]) rfl nd (lS (au cp)) trivial (bD (aa 1)) (λ_ _ _=>(b5 0 (show (["row"]:List Str).Nodup from by decide+kernel))) (λ_ _ _=>eW) (λ_ _ _=>(ki om rfl T.B.list h8 (ab (aa 0) ah))))
  (dE (t:=ky Z [0,0,0,0] 0 _)
   (aC false 3 nd (aB T.d_first_fault (iU T) hr (ab (aa 2) ah)))
  (dE (t:=ky Z [0,0,0,0] 0 _)
   (bA (aP qJ (aa 3) cC (bf _)) (ao qo) aQ)
  (pK (BR (pv 0) (pv 2) rfl))))),?_⟩
 have lw:(w'.map aq).length=w'.length:=aV _;refine ⟨⟨G,H,G⟩,[some (.obj p),some (az w'),none,none],{nx:=λρ=>ρ= [some (.obj p),some (az w'),none,none],rt:=λ_=>False},⟨G,λ_=> [],?_⟩,?_,⟨?_,λ_ z=>z.elim,λ_ z=>z.elim,λ_ z=>z.elim⟩⟩
 ·refine ⟨.refl sG, .refl _,rfl,λi d hi=>?_,λ_=>fH,(λ_ _ _ _ z=>by cases z),(λ_ _ z=>by cases z)⟩
  match i,hi with
  |0,hi=>cases hi;exact ⟨_,rfl, .obj p,rfl⟩
  |1,hi=>cases hi;exact ⟨_,rfl,dv,rfl⟩
  |2,hi=>cases hi
  |3,hi=>cases hi
  |i+4,hi=>cases hi
 ·have e1:D.bl (decide ((1:Int)≤((w'.map aq).length:Int)))= .bl true:=congrArg D.bl (decide_eq_true (by rw [lw];omega))
  have e2:D.bl (decide (((w'.map aq).length:Int)≤14))= .bl true:=congrArg D.bl (decide_eq_true (by rw [lw];omega))
  exact ⟨_,rfl,true,e1,b6 ⟨true,e2,cD rfl⟩⟩
 rintro _ rfl vS H1 S1;refine ⟨⟨G,H,G⟩,_,{nx:=λρ=>ρ= [some (.obj p),some (az w'),some (az w'),none],rt:=λ_=>False},S1,?_,⟨?_,λ_ z=>z.elim,λ_ z=>z.elim,λ_ z=>z.elim⟩⟩
 ·exact ⟨_,rfl,gN (ρ:= [none]) aq aq w' _ (λy hy Y h=>⟨_,rfl,h⟩) rfl (small (by omega)) λaE=>⟨trivial,rfl⟩⟩
 rintro _ rfl gE H2 S2;refine ⟨⟨G,H,G⟩,_,{nx:=λρ=>ρ= [some (.obj p),some (az w'),some (az w'),some .aN],rt:=λ_=>False},S2,?_,⟨?_,λ_ z=>z.elim,λ_ z=>z.elim,λ_ z=>z.elim⟩⟩
 ·exact ⟨_,rfl,w',rfl,g,h1,cz,trivial,rfl⟩
 rintro _ rfl nN H3 S3;refine ⟨⟨G,H,G⟩,_,{nx:=λρ=>ρ= [some (.obj p),some (az w'),some (az w'),some .aN],rt:=λ_=>False},S3,?_,⟨?_,λ_ z=>z.elim,λ_ z=>z.elim,λ_ z=>z.elim⟩⟩
 ·exact ⟨_,rfl,_,rfl,cD rfl⟩
 rintro _ rfl je H4 ⟨G4,fp,S4⟩;obtain ⟨v0,ko,o0⟩:=S4.at_ 0 _ rfl;obtain ⟨v2,NA,o2⟩:=S4.at_ 2 _ rfl;obtain ⟨d0,_⟩:=o0;obtain ⟨d2,_⟩:=o2;cases d0;have Mb:=d2;cases d2 with
 | @lst R xs ds hR e=>
  have Nr:=S4.ex.hh _ _ hp;refine ⟨_,NA,_,ko,p,Z.C,dx,[],rfl,Nr,T.W.cl,T.W.nR,by decide,?_⟩
  have g4:G4 p=none:=S4.ex.off p (by show H p≠none;rw [hp];exact λz=>nomatch z) gp
  refine q R G4 _ S4.ex.gg (λb o eb=>?_) (λb o eb nb=>?_) S4.ex.off aw Mb
  ·rw [ay (aM eb g4)];exact S4.ex.sub _ _ eb
  ·rw [ay nb];exact S4.ex.hh _ _ eb
def Aq:cj:=λds P=>∃(w:W),ds= [.iH w]∧w.length≤14∧P (az w)
theorem j3:FnOk P w Z.K mg base bS 1 T.m_turns.f T.m_turns.fd ["self"] (aU Z Aq):=by
 have nd:=j5.nd;refine aX T.m_turns.F j5 [0] (by decide) (λds R h=>by obtain ⟨_,rfl,_⟩:=h;rfl) (λbc A outer s H E ds R hr h=>?_)
 have hu:=hr.units;refine ⟨_,(ao (aO (oA (NC:= ["row"]) (src:= [none]) rfl (lS (au fP)) trivial (bD (yD T.W (aa 0))) (λ_ _ _=>(b5 0 (show (["row"]:List Str).Nodup from by decide+kernel))) (λ_ _ _=>eW) (λ_ _ _=>(ki om rfl T.B.list h8 (ab (aa 0) ah)))))),?_⟩
 obtain ⟨w',rfl,cz,q⟩:=h;exact ⟨_,rfl,w',rfl,gN (ρ:= [none]) aq aq w' _ (λy hy Y h=>⟨_,rfl,h⟩) rfl (small (by omega)) λaE=>q⟩
end yb
namespace L2
open PySem PySem.Spec PyProof.Rows
section
variable {Z:DC} {X:Cx} {md:List Nat} {rn:Nat} {a b e k:Expr} {pos:Pos} {ta tb te tk:aK} {t:fh}
def Hr(ta tb:aK):fh:=λρ P=>ta ρ λd1=>∃l1,d1= .lst l1∧tb ρ λd2=>∃l2,d2= .lst l2∧l1.length+l2.length≤sizeLine∧P (l1++l2)
theorem AR(ha:DE Z X a ta)(hb:DE Z X b tb):DF Z X 1 (.BinOp a .Add b pos) (Hr ta tb):=by
 refine (r6 rU ha hb).imp ?_;rintro σ H Q ⟨G,ρ,P,s,e,h,q⟩;refine ⟨G,ρ,_,s,e,h,?_⟩;rintro _ ⟨l1,rfl,h⟩ v1 G1 H1 x1 uK;refine ⟨G1,ρ,_,x1.sub,e.mono x1.gg,h,?_⟩;rintro _ ⟨l2,rfl,hz,hp⟩ v2 G2 H2 x2 rk;obtain ⟨p1,FJ,rfl,h1,e1⟩:=uK.fo;obtain ⟨p2,K3,rfl,h2,e2⟩:=rk.fo;have En:=e1.mono x2.gg;have x:=x1.trans x2;refine ⟨_,_,_,_,rfl,rfl,x2.hh _ _ (x1.sub _ _ h1),x2.sub _ _ h2,by rw [e1.length,e2.length];exact hz,λp iu=>?_⟩
 obtain ⟨o1,o2,o3⟩:=eZ x iu (En.append e2);exact q _ hp _ _ _ _ (x.side iu) o1 o2 o3
variable {tg iter elt:Expr} {ifs:List Expr} {scope:Scope} {NC:List Str} {src:List (Option Nat)} {wi:gU} {g:cW} {tt:bY}
theorem Ee(hc:X.calm=true)(c:bE X scope)(dD:b4 scope X.N src NC)(hi:DI Z X tg iter wi)
  (hg:∀ex s H,DG Z (dq X scope NC ex s H) tg g) (ht:∀ex s H,uA Z (dq X scope NC ex s H) ifs tt) (he:∀ex s H,DE Z (dq X scope NC ex s H) elt te)
  (hs:∀x,foldedSetIterable iter X.env x=pure x:=by intro _;rfl):DF Z X 1 (.ListComp elt [⟨tg,iter,ifs,0⟩] scope pos) (A2 wi g tt te src):=(zU hc c dD hi hg ht he hs).imp oY
variable {B:Bs} {ρ:DN} {σ:St} {H G:Hp} {fp:Nat→List Addr}
theorem SIx.MC{P:List D→Prop}{Q:VK}(S:SIx Z B md ρ σ H G fp)(h:t ρ P)
  (hq:∀ds,P ds→ds.all bU=true∧∀v G' H',SIx Z B md ρ σ H' G' fp→Ext G H G' H'→Dv Z G' v (.lst ds)→Q v H'):kv Z 1 t σ H Q:=by
 refine ⟨H,ρ,P, .refl _,S.mP,h,?_⟩;intro ds hd v f G' H' x o nd nw;obtain ⟨y8,k⟩:=hq ds hd;obtain ⟨a,xs,cZ,fj,rfl,e1,ha,uV,ol⟩:=o.lst;cases e1;obtain ⟨dv,rfl⟩:=ol.flat;have hb:H a=none:=(nw a (by rw [uV];simp)).1
 have hg:G a=none:=S.ex.sub.free hb
 have x2:Ext G H (upd G a (.lst xs)) H':=by
  refine ⟨aG hg _,λb o e=>?_,x.hh,λb h1 h2=>?_⟩
  ·by_cases z:b=a
   ·subst z
    rw [aw] at e;rw [←e];exact ha
   ·rw [ay z] at e
    exact x.hh _ _ (S.ex.sub _ _ e)
  ·rw [ay (λz=>h1 (by rw [z];exact hb))];exact h2
 exact k _ _ _ (S.grow x2) x2 (.lst aw (dv.flat y8))
def yy(i:Nat)(tk:aK)(t:fh):bF:=λE ρ=>t ρ λd=>d.all bU=true∧∃ds,ρ[i]? =some (some (.lst ds))∧tk ρ λkk=>∃k j,kk= .int k∧dZ ds.length k=some j∧E.nx (ρ.set i (some (.lst (ds.set j (.lst d)))))
theorem uI(i:Nat){x:Str}{px ps:Pos}(hk:DE Z X k tk)(he:DF Z X 1 e t)(hm:md.getD i 0=1:=by rfl)(hi:X.N[i]? =some x:=by rfl)(hv:iK X.env.scope x:=by first|exact Or.inl rfl|exact Or.inr (Or.inl rfl) |exact Or.inr (Or.inr rfl))(hd:(x==("__debug__":Str))=false:=by decide)(cA:(x==("__classdict__":Str))=false:=by decide)
  (ha:∀v,assign (.Subscript (.Name x px) k ps) X.env v=(do
   let ov ←holding [v] (eval (.Name x px) X.env)
   let iv ←holding [v,ov] (eval k X.env)
   standAt ps
   holding [v,ov,iv] (setItem ov iv v)
   release [v,ov,iv] []):=by intro _;rfl)
  (hs:swapsWithSole [.Subscript (.Name x px) k ps] e pos.line X.env=pure false:=by rfl) (hw:swappedStores [.Subscript (.Name x px) k ps] e X.env=pure none:=by rfl)
  (h1:(assignEach [.Subscript (.Name x px) k ps] X.env).map (·.2)= [assign (.Subscript (.Name x px) k ps) X.env]:=by rfl):DSt Z X md rn (.Assign [.Subscript (.Name x px) k ps] e pos) (yy i tk t):=by
 refine (se he (nW (pv i hi hv hd cA) hk set_list ha) hs hw h1).imp ?_;rintro D σ H ⟨B,ρ,E,⟨G,fp,S⟩,h,M⟩;refine S.MC h λd hd=>⟨hd.1,λv G' H' S' x dv=>?_⟩;obtain ⟨_,ds,h1,h⟩:=hd;obtain ⟨l,xs,_,_,e2,e3,_⟩:=S'.one hm h1;refine ⟨_,e2,S'.ev true h ?_⟩;rintro _ ⟨k,j,rfl,hj,h3⟩;refine ⟨rfl,λv1 G1 H1 S1 x1 uK=>?_⟩;cases uK;obtain ⟨l',fb,cZ,e1,gG,rz,aT,put⟩:=S1.one hm h1;cases e1;rw [e2] at gG;cases gG;exact ⟨l,fb,k,j,rfl,rfl,rz,by rw [aT.length];exact hj,M.nx _ h3 _ _ ⟨G1,fp,put _ _ (aT.set (dv.mono x1.gg) j)⟩⟩
end
section
variable {Z:DC} {X:Cx} {md:List Nat} {rn:Nat} {e:Expr} {pos p2:Pos} {te:aK} {t:fh} {lo hi:Option Expr} {tl th:uz}
def D9(t:fh):bF:=λE ρ=>t ρ λds=>E.rt (.lst ds)
theorem sX(he:DF Z X rn e t):DSt Z X md rn (.Return (some e) pos) (D9 t):=(sh he).imp λD σ H ⟨B,ρ,E,⟨G,fp,S⟩,h,M⟩=>by
 let F:Addr→Prop:=λb=>∃i,b∈fp i
 have s:=S.ex.sub
 have x0:Ext B.G₀ B.H₀ (plus G H F) H:=⟨S.ex.gg.trans (cw s),fV s,S.ex.hh,λb hb hg=>by
  rw [eF (λ⟨i,hi⟩=>hb (S.nw i b hi).1)];exact S.ex.off b hb hg⟩
 refine ⟨plus G H F,ρ,_,fV s,⟨S.len,λi d h=>?_⟩,h,λds hd v f G' H' x o nd nw=>M.rt _ hd v f G' H' (x0.trans x) o nd λb hb=>⟨S.ex.hh.free (nw b hb).1,(nw b hb).2⟩⟩;obtain ⟨v,hv,o⟩:=S.at_ i d h;exact ⟨v,hv,o.dv (cw s) λb hb u e=>by rw [iB ⟨i,hb⟩];exact e⟩
end
theorem cR.ok{P:Program}{w:World}{H:Hp}{h:Heap}{a:Addr}{b:Bool}{ns:List Int}(x:cR b a ns h):bL P w H h a (.ext (cR b a ns)):=by
 refine ⟨x,let ⟨o,_,_,_,ho,_⟩:=x;⟨o,ho⟩,λh1 h2 p k=>?_⟩;obtain ⟨o,es,ep,t,ho,r⟩:=p;exact ⟨o,es,ep,t,k o ho,r⟩
theorem mJ.elems{P:Program}{w:World}{es:Array (Int×Value)}{ns:List Int}(i:mJ es ns):ElemsOf (intKind P w) es.toList:=λe he=>by
 obtain ⟨k,t,rfl⟩:=i.1 e he;exact ⟨⟨k,by simp [intKind,Value.isInt],rfl⟩,rfl⟩
theorem qx:∀{es:List (Int×Value)}{ms:List Int},(∀e∈es,∃k t,e=(hashInt k,Value.int k t))→IntsAre (es.map (·.2)) ms→∀k,k∈ms↔∃e∈es,Value.isInt k e.2=true
 | [],_,_,h,k=>by cases h;simp
 |e::es,ms,ha,h,k=>by
  obtain ⟨j,t,rfl⟩:=ha e (eH ..);cases h with
  |cons n t' h=>
   have ih:=qx (λe he=>ha e (fg _ he)) h k;rw [cF,ih]
   constructor
   ·rintro (rfl| ⟨e,he,q⟩)
    ·exact ⟨_,eH ..,by simp [Value.isInt]⟩
    ·exact ⟨e,fg _ he,q⟩
   ·rintro ⟨e,he,q⟩
    rcases cF.mp he with rfl|he
    ·left;simp [Value.isInt] at q;exact q.symm
    ·exact .inr ⟨e,he,q⟩
theorem mJ.mem{P:Program}{w:World}{es:Array (Int×Value)}{ns:List Int}(i:mJ es ns)(k:Int):k∈ns↔∃e∈es.toList,(intKind P w).is k e.2=true:=by
 obtain ⟨a,_,ms,b,c⟩:=i;rw [←c.mem_iff];exact qx a b k
theorem qw:∀{vs:List Value}{ms:List Int},IntsAre vs ms→vs.length=ms.length
 |_,_, .nil=>rfl
 |_,_, .cons _ _ h=>congrArg (·+1) (qw h)
theorem mJ.size{es:Array (Int×Value)}{ns:List Int}(i:mJ es ns):es.size=ns.length:=by
 obtain ⟨_,_,ms,b,c⟩:=i;rw [←c.length_eq,←qw b,aV,fe]
theorem _root_.PySem.ed.Aj{b:Bool}{o:Obj}{es:Array (Int×Value)}{ep:Nat}{t:SetTable}(S:ed b o es ep t):es.size≤306:=by
 have:=S.few
 rcases S.tok.few with h|h|h|h<;>omega
theorem cR.setOf{P:Program}{w:World}{h:Heap}{a:Addr}{b:Bool}{ns:List Int}(x:cR b a ns h):h.SetOf (intKind P w) a (λk=>decide (k∈ns)) ns.length:=by
 obtain ⟨o,es,ep,t,ho,S,i⟩:=x;refine ⟨o,es,ep,t,ho,S.ex,S.dat,i.elems,λk=>?_,?_,S.fits,i.size⟩
 ·rw [decide_eq_true_eq];exact i.mem k
 ·have:=S.Aj
  show es.size<4096;omega
def qv(ns:List Int)(k:Int):List Int:=if k∈ns then ns else ns++ [k]
section
variable {X:Cx}
theorem Inv.wF{pins:List (Addr×Obj)}{σ:St}{H:Hp}{s:Shared}{a:Addr}{b:Bool}{ns:List Int}(I:Inv X pins σ H s)(h:H a=some (.ext (cR b a ns))):cR b a ns s.heap:=(I.hok a _ h).1
theorem zW{p pos:Pos}(hg:Gl X "set")(hm:X.mg "set"=none):PE X (.Call (.Name "set" p) [] [] pos) (λσ H Q=>∀q,H q=none→Q (.ref q) (upd H q (.ext (cR (cG X.w) q [])))):=by
 intro pins s σ H Q I h;refine wpAny_Call_Name_kw (iN I hg hm (u:= .type "set") (by decide+kernel) ?_ (by decide) (by decide))
 refine PyProof.Rows.callWith_type rfl (PyProof.Rows.evalArgs_nil3 (rd ?_));have hn:=I.hok.fresh (bC _);refine ⟨.ref s.heap.objs.size,_,I.laid (t':=s.toks) (λb o e=>Heap.get?_push_of_some _ e) (bC _) (o:= .ext (cR (cG X.w) s.heap.objs.size [])) (cR.ok ⟨_,_,_,_,Heap.get?_push_size _ rfl,ed.new X.w,?_⟩),rfl,h _ hn⟩;exact ⟨λe he=>by simp at he,fH,[],by simpa using IntsAre.nil, .refl _⟩
theorem vy:OpR X (compareOp .NotIn) (λx y H Q=>∃k p b ns,x= .int k∧y= .ref p∧H p=some (.ext (cR b p ns))∧Q (.bl (!decide (k∈ns))) H):=by
 intro pins s σ H x y v u Q I rx ry h;obtain ⟨k,p,b,ns,rfl,rfl,hp,q⟩:=h;obtain ⟨t,rfl⟩:=rx;cases ry;exact wpAny_notInSet_of (knd:=intKind X.prog X.w) (k:=k) (by simp [intKind,Value.isInt]) rfl (I.wF hp).setOf ⟨.bl _,H,I.tok _,rfl,q⟩
def Fo(w:World):V→List V→Hp→VK→Prop:=λx vs H Q=>∃l b ns k,x= .ref l∧vs= [.int k]∧H l=some (.ext (cR b l ns))∧b=cG w∧ns.length≤300∧Q .aN (upd H l (.ext (cR b l (qv ns k))))
theorem zE:AK X "set.add" (Fo X.w):=by
 intro pins s σ H x vs v us Q I rx rv h;obtain ⟨l,b,ns,k,rfl,rfl,hl,rfl,hz,q⟩:=h;cases rx;obtain ⟨u,rfl,ru⟩:=rv.one;obtain ⟨tk,rfl⟩:=ru;obtain ⟨o,es,ep,t,ho,S,i⟩:=I.wF hl;have hT:s.TypeIs (.ref l) "set":=⟨o,ho,S.ex.1⟩;refine wpAny_call_entry F.slot_set_add hT F.entry_set_add ?_ (F.args_set_add_2 _ _);unfold Builtin.«set.add» Builtin.Frozenset.oneOther;simp only [List.isEmpty_nil,bind_assoc];unfold Builtin.Frozenset.addrOf setAdd;refine wpAny_bind (wpAny_pure ?_)
 try dsimp only
 refine wpAny_bind (wpAny_pure ?_)
 try dsimp only
 refine wpAny_bind ?_;refine wpAny_holding ?_;have hk:(intKind X.prog X.w).is k (.int k tk)=true:=by simp [intKind,Value.isInt]
 refine wpAny_bind ((intKind X.prog X.w).pyHash hk ?_);refine sv (s:={s with toks:=s.toks+1}) ho S i.elems hk (by rw [i.size];omega) (λhm=>?_) λnm h' o' gb rA t' sb gX S' pm=>?_
 ·show wpAny _ _ (ret Value.none) _ _ _
  have we:k∈ns:=(i.mem k).mpr hm;rw [qv,if_pos we] at q
  have e:upd H l (.ext (cR (cG X.w) l ns))=H:=by
   funext c
   by_cases z:c=l
   ·subst z;rw [aw];exact hl.symm
   ·rw [ay z]
  rw [e] at q;exact wpAny_pure ⟨_,rfl, .aN,H,I.tok _,rfl,q⟩
 ·show wpAny _ _ (ret Value.none) _ _ _
  have we:k∉ns:=λz=>nm ((i.mem k).mp z);rw [qv,if_neg we] at q
  have i':mJ gb (ns++ [k]):=by
   obtain ⟨a1,a2,ms,a3,a4⟩:=i;refine ⟨λe he=>?_,?_,?_⟩
   ·rcases b9.mp (pm.mem_iff.mp he) with h|h
    ·exact a1 e h
    ·rw [eI] at h;exact ⟨k,tk,h⟩
   ·rw [jD]
    refine ⟨a2,by simp,λx hx y hy z=>we ?_⟩
    rw [eI] at hy;rw [←hy,←z];exact hx
   ·have a5:IntsAre ((es.toList++ [((intKind X.prog X.w).hash k,Value.int k tk)]).map (·.2)) (ms++ [k]):=by
     rw [cE];clear a4 pm;generalize es.toList.map (·.2)=vs at a3
     induction a3 with
     |nil=>exact .cons k tk .nil
     |cons n t _ ih=>exact .cons n t ih
    obtain ⟨PM,b1,b2⟩:=oR (pm.map (·.2)) a5;exact ⟨PM,b1,b2.trans (a4.append_right _)⟩
  have I':=I.write (h':=h') (t':=s.toks+1) (x:=l) (e:=l) (o:= .ext (cR (cG X.w) l (ns++ [k]))) (by rw [hl];trivial) (.inl rfl) (λb u hb e=>sb.extBut b u hb e) ⟨o',gX⟩ (cR.ok ⟨o',gb,rA,t',gX,S',i'⟩)
  exact wpAny_pure ⟨_,rfl, .aN,_,I',rfl,q⟩
def KN(r:V→List V→Hp→VK→Prop)(to:TE)(t:TA):TE:=λσ H Q=>to σ H λx H1=>(∃p b ns,x= .ref p∧H1 p=some (.ext (cR b p ns)))∧t σ H1 λxs H2=>r x xs H2 Q
variable {o e:Expr} {es:List Expr} {to:TE} {t:TA} {name:Str} {apos aL:Pos} {id:String} {r:V→List V→Hp→VK→Prop}
theorem BH(pa:PlainAttrs "set")(slot:Slot "set" name id)(zj:typeOf (.builtin id)=pure (.type "method_descriptor"))(hm:AK X id r)(ho:PE X o to)(ha:PA X (e::es) t)
  (cI:attributeBase o name X.env (eval o X.env)=eval o X.env:=by rfl)
  (ik:((backTo aL (starEach (e::es) X.env)).all (λx=>!x.1)&&(backToKw aL (keywordEach [] X.env)).all (λx=>x.1.isSome)
   &&decide ((e::es).length+([]:List Keyword).length+(if ([]:List Keyword).isEmpty then 0 else 1)<30))=true:=by rfl)
  (cg:(apos.endLine==aL.line)=true:=by rfl) (hs:starEach (e::es) X.env=(false,eval e X.env)::starEach es X.env:=by rfl) (cO:(backTo aL (starEach es X.env)).any (·.1)=false:=by rfl):
  PE X (.Call (.Attribute o name apos) (e::es) [] aL) (KN r to t):=by
 intro pins s σ H Q I h;refine wpAny_Call_method_late cI ik cg rfl (thn (ho pins s σ H _ I h) λv s1 ⟨x,H1,I1,r1,ty,q1⟩=>?_);obtain ⟨p,b,ns,rfl,hp⟩:=ty;cases r1;obtain ⟨oo,_,_,_,Il,S,_⟩:=I1.wF hp;refine ⟨"set",id,pa,slot,zj,⟨oo,Il,S.ex.1⟩,λa ea=>?_,?_⟩
 ·cases ea;exact ⟨oo,Il,S.ex.2.1⟩
 have hA:=ha aL pins s1 σ H1 _ I1 q1;rw [hs] at hA ⊢;refine Calls.callWith_builtin (by show (false|| (backTo aL (starEach es X.env)).any (·.1))=false;rw [cO]<;>rfl) (Calls.evalArgs_plain ?_)
 exact thn hA λus s2 ⟨vs,H2,I2,r2,q2⟩=>hm pins s2 σ H2 (.ref p) vs (.ref p) us Q I2 rfl r2 q2
theorem qb(hc:X.calm=true):cU X (.builtin "sorted") (λxs H Q=>∃(p:Addr)(ns:List Int),xs= [.ref p]∧H p=some (.ext (cR (cG X.w) p ns))∧ns.length<64∧∀(q:Addr)(ms:List Int),H q=none→ms.Perm ns→ms.Pairwise (·≤·)→Q (.ref q) (upd H q (.lst (ms.map V.int)))):=by
 intro pins s σ H xs us Q I rv h;obtain ⟨p,ns,rfl,hp,hz,q⟩:=h;obtain ⟨u,rfl,ru⟩:=rv.one;cases ru;obtain ⟨o,es,ep,t,ho,S,i⟩:=I.wF hp;obtain ⟨_,_,Rt,i1,i2⟩:=id i;refine ud (I.ok.hd hc) ho S i1 (by rw [i.size];exact hz) λh' tk c out e ms old le hg hI pm vJ=>?_
 have fr:H c=none:=I.hok.fresh le;have cg:64≤sizeLine:=by decide
 have Ng:=(pm.trans i2).length_eq;exact ⟨.ref c,_,I.laid (t':=tk) old le (o:= .lst (ms.map V.int)) ⟨by rw [aV];omega,out.toList,e,iS hI,by simpa using hg⟩,rfl,q c ms fr (pm.trans i2) vJ⟩
end
section
variable {Z:DC} {X:Cx} {B:Bs} {md:List Nat} {rn:Nat} {ρ:DN} {σ:St} {H G:Hp} {fp:Nat→List Addr} {a e k o:Expr} {ta te tk tp:aK} {pos apos aL p2:Pos}
def GK(neg:Bool):dG:=λa b P=>∃k bb ns,a= .int k∧b= .set bb ns∧P (.bl (if neg=true then !decide (k∈ns) else decide (k∈ns)))
theorem vv:OpR X (compareOp .NotIn) (bg Z (GK true)):=by
 refine vy.imp ?_;rintro x y H Q ⟨G,a,b,P,s,da,db,⟨k,bb,ns,rfl,rfl,h⟩,q⟩;cases da;cases db with
 |set hp=>exact ⟨k,_,_,ns,rfl,rfl,s _ _ hp,q _ h _ G H (.refl s) (.bl _)⟩
def Ec(w:World)(i:Nat):bF:=λE ρ=>E.nx (ρ.set i (some (.set (cG w) [])))
theorem yM(i:Nat){x:Str}{pos' p:Pos}(hN:X.N.Nodup)(hg:Gl X "set")(uZ:X.mg "set"=none)(hm:md.getD i 0=99:=by rfl)(hi:X.N[i]? =some x:=by rfl)(hx:Loc X.env.scope x:=by first|exact Or.inl rfl|exact Or.inr rfl)(hs:swapsWith (.Call (.Name "set" p) [] [] p2) (some (.Name x pos')) pos.line X.env=pure false:=by rfl)
  (hf:X.fn x=true∨X.env.scope.names.lookup x=some .local:=by first|exact .inl rfl|exact .inr rfl|assumption):DSt Z X md rn (.Assign [.Name x pos'] (.Call (.Name "set" p) [] [] p2) pos) (Ec X.w i):=by
 refine (eQ hN hi hx (zW hg uZ) hs hf).imp ?_;rintro D σ H ⟨B,ρ,E,⟨G,fp,S⟩,h,M⟩;intro c hc;have gc:G c=none:=S.ex.sub.free hc;have x:Ext G H G (upd H c (.ext (cR (cG X.w) c []))):=⟨.refl _,S.ex.sub.trans (aG hc _),aG hc _,λ_ _ z=>z⟩;refine M.nx _ h _ _ ⟨G,_,(S.grow x).qM hm (f:= [c]) (.inr (.inr ⟨c,_,rfl,aw,rfl, .inl ⟨rfl,_,[],rfl,rfl⟩⟩)) (by simp) (λb hb=>?_) λb hb j _ hj=>?_⟩
 ·rw [eI] at hb;subst hb
  exact ⟨S.ex.hh.free hc,(by rw [aw];exact λz=>nomatch z),gc⟩
 ·rw [eI] at hb;subst hb
  exact (S.nw j _ hj).2.1 hc
def DX(w:World)(md:List Nat)(m:Bool)(i:Nat)(te:aK):bF:=λE ρ=>∃ns,ρ[i]? =some (some (.set (cG w) ns))∧te (mG md m ρ) λd=>∃k,d= .int k∧ns.length≤300∧E.nx (ρ.set i (some (.set (cG w) (qv ns k))))
theorem yG(m:Bool)(i:Nat){x:Str}{px:Pos}(he:DE Z X e te)(hm:md.getD i 0=99:=by rfl)(hi:X.N[i]? =some x:=by rfl)(hv:iK X.env.scope x:=by first|exact Or.inl rfl|exact Or.inr (Or.inl rfl) |exact Or.inr (Or.inr rfl))(hd:(x==("__debug__":Str))=false:=by decide)(cA:(x==("__classdict__":Str))=false:=by decide)
  (cI:attributeBase (.Name x px) "add" X.env (eval (.Name x px) X.env)=eval (.Name x px) X.env:=by rfl)
  (ik:((backTo aL (starEach [e] X.env)).all (λx=>!x.1)&&(backToKw aL (keywordEach [] X.env)).all (λx=>x.1.isSome)&&decide (([e]:List Expr).length+([]:List Keyword).length+(if ([]:List Keyword).isEmpty then 0 else 1)<30))=true:=by rfl)
  (cg:(apos.endLine==aL.line)=true:=by rfl) (hs:starEach [e] X.env=(false,eval e X.env)::starEach [] X.env:=by rfl) (cO:(backTo aL (starEach [] X.env)).any (·.1)=false:=by rfl)
  (jq:swapsWith (.Call (.Attribute (.Name x px) "add" apos) [e] [] aL) none pos.line X.env=pure false:=by rfl):
  DSt Z X md rn (.Expr (.Call (.Attribute (.Name x px) "add" apos) [e] [] aL) pos) (DX X.w md m i te):=by
 refine (lB (BH PySem.F.plainAttrs_set PySem.F.slot_set_add PySem.F.type_set_add zE (pv i hi hv hd cA) (cK he eO hs) cI ik cg hs cO) jq).imp ?_;rintro D σ H ⟨B,ρ,E,⟨G,fp,S⟩,⟨ns,h1,h⟩,M⟩;obtain ⟨v0,ko,o0⟩:=S.at_ i _ h1;rw [hm] at o0;obtain ⟨l,rfl,hl,_⟩:=o0.Dg;refine ⟨_,ko,⟨l,_,_,rfl,hl⟩,S.ev m h λd hd=>?_⟩;obtain ⟨k,rfl,hz,hn⟩:=hd;refine ⟨by cases m<;>trivial,λv G' H' S' x dv=>?_⟩
 cases dv;obtain ⟨v1,zo,o1⟩:=S'.at_ i _ h1;rw [ko] at zo;cases zo;rw [hm] at o1;obtain ⟨l',e',ER,y9⟩:=o1.Dg;cases e';refine ⟨l,_,ns,k,rfl,rfl,ER,rfl,hz,M.nx _ hn _ _ ⟨G',fp,S'.mut ko (b:=l) (by rw [y9];simp) ?_⟩⟩
 rw [hm,y9];exact .inr (.inr ⟨l,_,rfl,aw,rfl, .inl ⟨rfl,_,_,rfl,rfl⟩⟩)
def GI(md:List Nat)(i:Nat)(te:aK):bF:=λE ρ=>∃ds,ρ[i]? =some (some (.lst ds))∧te (b7 md ρ) λd=>∃zs,d= .lst zs∧ds.length+zs.length≤sizeLine∧E.nx (ρ.set i (some (.lst (ds++zs))))
theorem AX(i:Nat){x:Str}{px:Pos}(he:DE Z X e te)(hm:md.getD i 0=1:=by rfl)(hi:X.N[i]? =some x:=by rfl)(hv:iK X.env.scope x:=by first|exact Or.inl rfl|exact Or.inr (Or.inl rfl) |exact Or.inr (Or.inr rfl))(hd:(x==("__debug__":Str))=false:=by decide)(cA:(x==("__classdict__":Str))=false:=by decide)
  (cI:attributeBase (.Name x px) "extend" X.env (eval (.Name x px) X.env)=eval (.Name x px) X.env:=by rfl)
  (ik:((backTo aL (starEach [e] X.env)).all (λx=>!x.1)&&(backToKw aL (keywordEach [] X.env)).all (λx=>x.1.isSome)&&decide (([e]:List Expr).length+([]:List Keyword).length+(if ([]:List Keyword).isEmpty then 0 else 1)<30))=true:=by rfl)
  (cg:(apos.endLine==aL.line)=true:=by rfl) (hs:starEach [e] X.env=(false,eval e X.env)::starEach [] X.env:=by rfl) (cO:(backTo aL (starEach [] X.env)).any (·.1)=false:=by rfl)
  (jq:swapsWith (.Call (.Attribute (.Name x px) "extend" apos) [e] [] aL) none pos.line X.env=pure false:=by rfl):
  DSt Z X md rn (.Expr (.Call (.Attribute (.Name x px) "extend" apos) [e] [] aL) pos) (GI md i te):=by
 refine (lB (rX PySem.F.plainAttrs_list PySem.F.slot_list_extend PySem.F.type_list_extend vi (pv i hi hv hd cA) (cK he eO hs) cI ik cg hs cO) jq).imp ?_;rintro D σ H ⟨B,ρ,E,⟨G,fp,S⟩,⟨ds,h1,h⟩,M⟩;obtain ⟨l,xs,_,_,e2,e3,_⟩:=S.one hm h1;refine ⟨_,e2,ty_list e3,S.ev false h λd hd=>⟨trivial,λv G' H' S' x dv=>?_⟩⟩;obtain ⟨zs,rfl,h2,h3⟩:=hd;obtain ⟨l',fb,cZ,e1,gG,rz,aT,put⟩:=S'.one hm h1;cases e1;rw [e2] at gG;cases gG;cases dv with
 | @lst b ys _ hb dz=>
  exact ⟨l,b,fb,ys,rfl,rfl,rz,S'.ex.sub _ _ hb,by rw [aT.length,dz.length];exact h2,M.nx _ h3 _ _ ⟨G',fp,put _ _ (aT.append dz)⟩⟩
end
theorem jW.snoc{H:Hp}{a:Addr}{p:Int×Int}(h:H a=some (.tup [.int p.1, .int p.2])):∀{es:List (Int×Addr)}{ps:List (Int×Int)},jW H es ps→jW H (es++ [(cv p,a)]) (ps++ [p])
 |_,_, .nil=> .cons h .nil
 |_,_, .cons h' t=> .cons h' (jW.snoc h t)
section
variable {X:Cx} {pins:List (Addr×Obj)} {σ:St} {H:Hp} {s:Shared}
theorem Inv.z7{a:Addr}{p:Int×Int}(I:Inv X pins σ H s)(h:H a=some (.tup [.int p.1, .int p.2])):IsTupleKey (intKind X.prog X.w) s.heap [p.1,p.2] a:=by
 obtain ⟨its,r,⟨o,ho,hc,n,hd⟩,_⟩:=I.tuple (dH.of h);obtain ⟨u1,u2,rfl,⟨t,rfl⟩,⟨u,rfl⟩⟩:=Vals.two r;exact ⟨o,_,n,ho,hc,hd, .cons (by simp [intKind,Value.isInt]) (.cons (by simp [intKind,Value.isInt]) .nil)⟩
theorem rV(P:Program)(w:World)(p:Int×Int):tupleKeyHash (intKind P w) [p.1,p.2]=cv p:=rfl
variable {o e:Expr} {es:List Expr} {to:TE} {t:TA} {name:Str} {apos aL:Pos} {id:String} {r:V→List V→Hp→VK→Prop}
end
section
variable {Z:DC} {X:Cx} {B:Bs} {md:List Nat} {rn:Nat} {ρ:DN} {σ:St} {H G:Hp} {fp:Nat→List Addr} {a e k o:Expr} {ta te tk tp:aK} {pos apos aL p2:Pos}
def Fl(p:Int×Int):D:= .tup [.int p.1, .int p.2]
theorem Dv.C7{v:V}{p:Int×Int}(h:Dv Z G v (Fl p)):∃c,v= .ref c∧G c=some (.tup [.int p.1, .int p.2]):=by
 obtain ⟨c,xs,rfl,h1,h2⟩:=Dv.kB h;obtain ⟨v1,v2,rfl,d1,d2⟩:=h2.zI;rw [d1.ofInt,d2.ofInt] at h1;exact ⟨c,rfl,h1⟩
end
section
variable {Z:DC} {X:Cx} {md:List Nat} {rn:Nat} {b:Expr} {pos Cq:Pos} {tb:aK}
def DV(md:List Nat)(i:Nat)(tb:aK):bF:=λE ρ=>∃l1,ρ[i]? =some (some (.lst l1))∧tb (b7 md ρ) λd2=>∃l2,d2= .lst l2∧l1.length+l2.length≤sizeLine∧E.nx (ρ.set i (some (.lst (l1++l2))))
theorem yF(i:Nat){x:Str}{px py:Pos}(hN:X.N.Nodup)(hb:DE Z X b tb)(hm:md.getD i 0=1:=by rfl)(hi:X.N[i]? =some x:=by rfl)(hx:Loc X.env.scope x:=by first|exact Or.inl rfl|exact Or.inr rfl)(hs:swapsWith (.BinOp (.Name x py) .Add b Cq) (some (.Name x px)) pos.line X.env=pure false:=by rfl)
  (hv:iK X.env.scope x:=by first|exact Or.inl rfl|exact Or.inr (Or.inl rfl) |exact Or.inr (Or.inr rfl)) (hd:(x==("__debug__":Str))=false:=by decide) (cA:(x==("__classdict__":Str))=false:=by decide)
  (hf:X.fn x=true∨X.env.scope.names.lookup x=some .local:=by first|exact .inl rfl|exact .inr rfl|assumption):DSt Z X md rn (.Assign [.Name x px] (.BinOp (.Name x py) .Add b Cq) pos) (DV md i tb):=by
 refine (eQ hN hi hx (r6 rU (pv i hi hv hd cA) hb) hs hf).imp ?_;rintro D σ H ⟨B,ρ,E,⟨G,fp,S⟩,⟨l1,h1,h⟩,M⟩;obtain ⟨l,xs,_,e0,e2,e3,aT,_⟩:=S.one hm h1;cases e0;refine ⟨_,e2,S.ev false h λd hd=>⟨trivial,λv G' H' S' x dv=>?_⟩⟩;obtain ⟨l2,rfl,hz,hn⟩:=hd;obtain ⟨p2,ys,rfl,h2,dz⟩:=dv.fo;refine ⟨_,_,_,_,rfl,rfl,x.hh _ _ e3,x.sub _ _ h2,by rw [aT.length,dz.length];exact hz,λp iu=>?_⟩
 obtain ⟨o1,o2,o3⟩:=eZ x iu ((aT.mono x.gg).append dz);exact M.nx _ hn _ _ ⟨G',_,(S.grow (x.side iu)).qM hm o1 o2 (λb hb=>⟨S.ex.hh.free (o3 b hb).1,(o3 b hb).2⟩) λb hb j _ hj=>(S.nw j b hj).2.1 (o3 b hb).1⟩
end
section
variable {Z:DC} {X:Cx} {e:Expr} {te:aK} {pos p:Pos}
def A4(w:World)(te:aK):fh:=λρ P=>te ρ λd=>∃ns:List Int,d= .set (cG w) ns∧ns.length<64∧∀ms:List Int,ms.Perm ns→ms.Pairwise (·≤·)→P (ms.map D.int)
theorem xf(hc:X.calm=true)(hg:Gl X "sorted")(hm:X.mg "sorted"=none)(ha:DE Z X e te)(hs:starEach [e] X.env=(false,eval e X.env)::starEach [] X.env:=by rfl)(dJ:(backTo pos (starEach [] X.env)).any (·.1)=false:=by rfl):DF Z X 1 (.Call (.Name "sorted" p) [e] [] pos) (A4 X.w te):=by
 refine (jR (qb hc) hg hm n6 (cK ha eO hs) (by decide) (by decide) hs dJ).imp ?_
 rintro σ H Q ⟨G,ρ,P,s,en,h,q⟩;refine ⟨G,ρ,_,s,en,h,?_⟩;rintro _ ⟨ns,rfl,hl,hp⟩ v G1 H1 x1 dv;cases dv with
 |set h1=>
  refine ⟨_,ns,rfl,x1.sub _ _ h1,hl,λa ms hn m1 m2=>?_⟩;obtain ⟨o1,o2,o3⟩:=eZ x1 hn (ar.ints (Z:=Z) (H:=G1) ms);exact q _ (hp _ m1 m2) _ _ _ _ (x1.side hn) o1 o2 o3
variable {o:Expr} {ta:aK} {m:Str} {f:Addr} {fd:FuncData} {ps:List Str} {sd:cj} {k n:Nat} {apos:Pos}
end
section
variable {Z:DC} {X:Cx} {pins:List (Addr×Obj)} {σ:St} {H:Hp} {s:Shared} {o e:Expr} {ta tb:aK} {apos:Pos}
end
theorem dN.ok{P:Program}{w:World}{H:Hp}{h:Heap}{a:Addr}{es:List (Int×Addr)}{vs:List FV}(x:dN a es vs h):bL P w H h a (.ext (dN a es vs)):=by
 refine ⟨x,let ⟨_,o,_,_,ho,_⟩:=x;⟨o,ho⟩,λh1 h2 p k=>?_⟩;obtain ⟨z,o,eA,ep,ho,r⟩:=p;exact ⟨z,o,eA,ep,k o ho,r⟩
inductive jf (H:Hp):List (Int×Addr)→List (Int×Int)→List FV→List (List Int×Addr×Value)→Prop
 |nil:jf H [] [] [] []
 |cons {a:Addr} {p:Int×Int} {v:FV} {u:Value} {es:List (Int×Addr)} {ks:List (Int×Int)} {vs:List FV} {xs:List (List Int×Addr×Value)}:H a=some (.tup [.int p.1, .int p.2])→AH v u→jf H es ks vs xs→jf H ((cv p,a)::es) (p::ks) (v::vs) (([p.1,p.2],a,u)::xs)
theorem jf.keys{H:Hp}:∀{es:List (Int×Addr)}{ks:List (Int×Int)}{vs:List FV}{xs:List (List Int×Addr×Value)},jf H es ks vs xs→xs.map (·.1)=ks.map λp=> [p.1,p.2]
 |_,_,_,_, .nil=>rfl
 |_,_,_,_, .cons _ _ t=>by rw [i9,i9,t.keys]
theorem jf.len{H:Hp}:∀{es:List (Int×Addr)}{ks:List (Int×Int)}{vs:List FV}{xs:List (List Int×Addr×Value)},jf H es ks vs xs→xs.length=ks.length
 |_,_,_,_, .nil=>rfl
 |_,_,_,_, .cons _ _ t=>congrArg (·+1) t.len
theorem jf.snoc{H:Hp}{a:Addr}{p:Int×Int}{v:FV}{u:Value}(h0:H a=some (.tup [.int p.1, .int p.2]))(h:AH v u):∀{es:List (Int×Addr)}{ks:List (Int×Int)}{vs:List FV}{xs:List (List Int×Addr×Value)},jf H es ks vs xs→jf H (es++ [(cv p,a)]) (ks++ [p]) (vs++ [v]) (xs++ [([p.1,p.2],a,u)])
 |_,_,_,_, .nil=> .cons h0 h .nil
 |_,_,_,_, .cons k' h' t=> .cons k' h' (jf.snoc h0 h t)
theorem mO(P:Program)(w:World)(p:Int×Int)(a:Addr)(u:Value):entryOfKey (tupleKind (intKind P w)) ([p.1,p.2],a,u)=⟨cv p, .ref a,u⟩:=by
 unfold entryOfKey;rw [show (tupleKind (intKind P w)).hash [p.1,p.2]=cv p from rV P w p]
theorem Em{H:Hp}{l:List DictEntry}{es:List (Int×Addr)}{vs:List FV}(d:wU l es vs):∀{ks:List (Int×Int)},jW H es ks→∃xs,jf H es ks vs xs∧∀(P:Program)(w:World),l=xs.map (entryOfKey (tupleKind (intKind P w))):=by
 induction d with
 |nil=>intro ks pe;cases pe;exact ⟨[], .nil,λ_ _=>rfl⟩
 | @cons e l h a v es vs h1 h2 h3 d ih=>
  intro ks pe;cases pe with
  | @cons _ p _ ps h t=>
   obtain ⟨xs,x1,x2⟩:=ih t;refine ⟨([p.1,p.2],a,e.val)::xs, .cons h h3 x1,λP w=>?_⟩;rw [i9,←x2 P w,mO];obtain ⟨eh,ek,ev⟩:=e;simp only at h1 h2 ⊢;rw [h1,h2]
theorem Es{P:Program}{w:World}{es:List (Int×Addr)}{ks:List (Int×Int)}{vs:List FV}{xs:List (List Int×Addr×Value)}{H:Hp}(d:jf H es ks vs xs):wU (xs.map (entryOfKey (tupleKind (intKind P w)))) es vs:=by
 induction d with
 |nil=>exact .nil
 |cons _ h t ih=>
  rw [i9,mO];exact .cons rfl rfl h ih
theorem jf.isKey{H:Hp}{X:Cx}{pins:List (Addr×Obj)}{σ:St}{s:Shared}(I:Inv X pins σ H s){es:List (Int×Addr)}{ks:List (Int×Int)}{vs:List FV}{xs:List (List Int×Addr×Value)}(d:jf H es ks vs xs):∀x∈xs,IsTupleKey (intKind X.prog X.w) s.heap x.1 x.2.1:=by
 induction d with
 |nil=>intro x hx;cases hx
 |cons h _ _ ih=>
  intro x hx
  rcases cF.mp hx with rfl|hx
  ·exact I.z7 h
  ·exact ih x hx
theorem jj{K:Type} [DecidableEq K] {xs:List (K×Addr×Value)} {k:K}:(atKey xs k).isSome=true↔k∈xs.map (·.1):=by
 unfold atKey;rw [Option.isSome_map,List.find?_isSome,dX]
 constructor
 ·rintro ⟨x,hx,e⟩;exact ⟨x,hx,of_decide_eq_true e⟩
 ·rintro ⟨x,hx,e⟩;exact ⟨x,hx,decide_eq_true e⟩
theorem mw{p:Int×Int}{ks:List (Int×Int)}: [p.1,p.2]∈ks.map (λp=> [p.1,p.2])↔p∈ks:=by
 rw [dX]
 constructor
 ·rintro ⟨q,hq,e⟩
  simp at e;rw [←show q=p from Prod.ext e.1 e.2];exact hq
 ·intro h;exact ⟨p,h,rfl⟩
theorem tV{ks:List (Int×Int)}(h:ks.Nodup):(ks.map λp=> [p.1,p.2]).Nodup:=by
 rw [wK,nj];rw [wK] at h;exact h.imp λ {a b} n e=>n (by simp at e;exact Prod.ext e.1 e.2)
section
variable {X:Cx} {pins:List (Addr×Obj)} {σ:St} {H:Hp} {s:Shared}
theorem Inv.Hl{a:Addr}{es:List (Int×Addr)}{ks:List (Int×Int)}{vs:List FV}(I:Inv X pins σ H s)(h:H a=some (.ext (dN a es vs)))(pe:jW H es ks)(nd:ks.Nodup):
  (a==sysModules)=false∧∃xs,jf H es ks vs xs∧s.heap.DictOfH (tupleKind (intKind X.prog X.w)) a xs:=by
 obtain ⟨z,o,eA,ep,ho,hx,hd,de⟩:=(I.hok a _ h).1;obtain ⟨xs,x1,x2⟩:=Em de pe;exact ⟨z,xs,x1,o,eA,ep,ho,hx,hd,x2 _ _,x1.isKey I,by rw [x1.keys];exact tV nd⟩
theorem zS{pos:Pos}:PE X (.Dict [] [] pos) (λσ H Q=>∀q,H q=none→Q (.ref q) (upd H q (.ext (dN q [] [])))):=by
 intro pins s σ H Q I h;have hn:=I.hok.fresh (bC s.heap.objs.size);refine wpAny_Dict_empty ⟨.ref s.heap.objs.size,_,I.laid (a:=s.heap.objs.size) (t':=s.toks) (λ_ _ q=>Heap.get?_push_of_some _ q) (bC _) (o:= .ext (dN s.heap.objs.size [] [])) (dN.ok ⟨?_,_, #[],0,Heap.get?_push_size _ rfl,⟨rfl,rfl,rfl⟩,rfl, .nil⟩),rfl,h _ hn⟩;have hg:mainGlobals<s.heap.objs.size:=(I.mod.glob.keeps I.bk).lt;have hs:sysModules<s.heap.objs.size:=Nat.lt_trans (by decide) hg
 exact beq_eq_false_iff_ne.mpr (Ne.symm (cf hs))
theorem tT(hu:X.A.units+64<cLine):OpR X (compareOp .NotIn) (λx y H Q=>∃c a es ks vs p,x= .ref c∧y= .ref a∧H c=some (.tup [.int p.1, .int p.2])∧H a=some (.ext (dN a es vs))∧jW H es ks∧ks.Nodup∧Q (.bl (!decide (p∈ks))) H):=by
 intro pins s σ H x y v u Q I rx ry h;obtain ⟨c,a,es,ks,vs,p,rfl,rfl,hc,ha,pe,nd,q⟩:=h;cases rx;cases ry;obtain ⟨z,xs,x1,hm⟩:=I.Hl ha pe nd
 have:(atKey xs [p.1,p.2]).isSome=decide (p∈ks):=by
  by_cases e:p∈ks
  ·rw [decide_eq_true e];exact jj.mpr (by rw [x1.keys];exact mw.mpr e)
  ·rw [decide_eq_false e]
   apply pW.mpr;exact λz=>e (mw.mp (by rw [←x1.keys];exact jj.mp z))
 exact PyProof.Rows.wpAny_notIn_heap (knd:=tupleKind (intKind X.prog X.w)) (k:= [p.1,p.2]) (by show X.A.units+1<cLine;omega) (I.z7 hc) z hm (by rw [this];exact ⟨.bl _,H,I.tok _,rfl,q⟩)
def vF:FV→V
 | .int i=> .int i
 | .bl b=> .bl b
theorem A6{f:FV}{u:Value}(h:RelV (vF f) u):AH f u:=by
 cases f with
 |int i=>exact h
 |bl b=>exact h
variable {o i value:Expr} {td ti tv:TE} {pos pos':Pos}
def FF(td ti tv:TE):TS:=λD σ H=>tv σ H λv H1=>td σ H1 λx H2=>ti σ H2 λy H3=>∃a c es ks vs p fv,x= .ref a∧y= .ref c∧v=vF fv∧H3 a=some (.ext (dN a es vs))∧H3 c=some (.tup [.int p.1, .int p.2])∧jW H3 es ks∧ks.Nodup∧p∉ks∧ks.length≤300∧D.nx σ (upd H3 a (.ext (dN a (es++ [(cv p,c)]) (vs++ [fv]))))
theorem z4(hu:X.A.units+64<cLine)(ho:PE X o td)(hi:PE X i ti)(hv:PE X value tv)(hs:swapsWith value (some (.Subscript o i pos')) pos.line X.env=pure false:=by rfl):PS X (.Assign [.Subscript o i pos'] value pos) (FF td ti tv):=by
 intro pins s σ H D I h;refine wpAny_Assign_Subscript (thn (hv pins s σ H _ I h) λr s1 ⟨v,H1,I1,rv,q1⟩=>thn (ho pins s1 σ H1 _ I1 q1) λu s2 ⟨x,H2,I2,rx,q2⟩=>thn (hi pins s2 σ H2 _ I2 q2) λiv s3 ⟨y,H3,I3,ry,a,c,es,ks,vs,p,fv,e1,e2,e3,ha,hc,pe,nd,np,hz,q3⟩=>?_) hs;subst e1 e2 e3;cases rx;cases ry;obtain ⟨z,xs,x1,hm⟩:=I3.Hl ha pe nd;refine wpAny_setItem_heap (knd:=tupleKind (intKind X.prog X.w)) (k:= [p.1,p.2]) (by show X.A.units+1<cLine;omega) (I3.z7 hc) hm (λh' uY sb=>?_) (small (by rw [x1.len];omega))
 have na:atKey xs [p.1,p.2]=none:=by
  cases e:atKey xs [p.1,p.2] with
  |none=>rfl
  |some q=>exact absurd (mw.mp (by rw [←x1.keys];exact jj.mp (by rw [e];rfl))) np
 rw [storedH_new na] at uY;have x2:jf H3 (es++ [(cv p,c)]) (ks++ [p]) (vs++ [fv]) (xs++ [([p.1,p.2],c,r)]):=x1.snoc hc (A6 rv);obtain ⟨o',MA,rA,gX,zp,jo,y6,_,_⟩:=uY;have I':=I3.write (h':=h') (t':=s3.toks+(tupleKind (intKind X.prog X.w)).draws [p.1,p.2]) (x:=a) (e:=a) (o:= .ext (dN a (es++ [(cv p,c)]) (vs++ [fv]))) (by rw [ha];trivial) (.inl rfl) (λb u hb e=>sb.extBut b u hb e) ⟨o',gX⟩ (dN.ok ⟨z,o',MA,rA,gX,zp,jo,by rw [y6];exact Es x2⟩)
 exact ⟨σ,_,I',q3⟩
end
section
variable {Z:DC} {X:Cx} {B:Bs} {md:List Nat} {rn:Nat} {ρ:DN} {σ:St} {H G:Hp} {fp:Nat→List Addr} {a e k o:Expr} {ta te tk tp:aK} {pos apos aL p2:Pos}
def GJ(neg:Bool):dG:=λa b P=>∃p ks vs,a=Fl p∧b= .x (.lu ks vs)∧P (.bl (if neg=true then !decide (p∈ks) else decide (p∈ks)))
theorem vt(hu:X.A.units+64<cLine):OpR X (compareOp .NotIn) (bg Z (GJ true)):=by
 refine (tT hu).imp ?_;rintro x y H Q ⟨G,a,b,P,s,da,db,⟨p,ks,vs,rfl,rfl,h⟩,q⟩;obtain ⟨c,rfl,hc⟩:=da.C7;cases db with
 |x hp ok=>
  obtain ⟨nd,es,rfl,pe⟩:=ok;exact ⟨c,_,es,ks,vs,p,rfl,rfl,s _ _ hc,s _ _ hp,pe.mono s,nd,q _ h _ G H (.refl s) (.bl _)⟩
def D1(i:Nat):bF:=λE ρ=>E.nx (ρ.set i (some (.x (.lu [] []))))
theorem yI(i:Nat){x:Str}{pos':Pos}(hN:X.N.Nodup)(hm:md.getD i 0=98:=by rfl)(hi:X.N[i]? =some x:=by rfl)(hx:Loc X.env.scope x:=by first|exact Or.inl rfl|exact Or.inr rfl)(hs:swapsWith (.Dict [] [] p2) (some (.Name x pos')) pos.line X.env=pure false:=by rfl)
  (hf:X.fn x=true∨X.env.scope.names.lookup x=some .local:=by first|exact .inl rfl|exact .inr rfl|assumption):DSt Z X md rn (.Assign [.Name x pos'] (.Dict [] [] p2) pos) (D1 i):=by
 refine (eQ hN hi hx zS hs hf).imp ?_;rintro D σ H ⟨B,ρ,E,⟨G,fp,S⟩,h,M⟩;intro c hc;have gc:G c=none:=S.ex.sub.free hc;have x:Ext G H G (upd H c (.ext (dN c [] []))):=⟨.refl _,S.ex.sub.trans (aG hc _),aG hc _,λ_ _ z=>z⟩;refine M.nx _ h _ _ ⟨G,_,(S.grow x).qM hm (f:= [c]) (.inr (.inr ⟨c,_,rfl,aw,rfl, .inr ⟨rfl,_,rfl,fH,[],rfl, .nil⟩⟩)) (by simp) (λb hb=>?_) λb hb j _ hj=>?_⟩
 ·rw [eI] at hb;subst hb
  exact ⟨S.ex.hh.free hc,(by rw [aw];exact λz=>nomatch z),gc⟩
 ·rw [eI] at hb;subst hb
  exact (S.nw j _ hj).2.1 hc
def Hy:FV→D
 | .int i=> .int i
 | .bl b=> .bl b
theorem Dv.JR{v:V}{f:FV}(h:Dv Z G v (Hy f)):v=vF f:=by
 cases f with
 |int i=>exact h.ofInt
 |bl b=>exact h.JQ
def Ed(md:List Nat)(i:Nat)(tk te:aK):bF:=λE ρ=>te (b7 md ρ) λd=>∃fv ks vs,d=Hy fv∧ρ[i]? =some (some (.x (.lu ks vs)))∧tk (b7 md ρ) λkd=>∃p,kd=Fl p∧p∉ks∧ks.length≤300∧E.nx (ρ.set i (some (.x (.lu (ks++ [p]) (vs++ [fv])))))
theorem yN(i:Nat){x:Str}{px pos':Pos}(hu:X.A.units+64<cLine)(hk:DE Z X k tk)(he:DE Z X e te)(hm:md.getD i 0=98:=by rfl)(hi:X.N[i]? =some x:=by rfl)(hv:iK X.env.scope x:=by first|exact Or.inl rfl|exact Or.inr (Or.inl rfl) |exact Or.inr (Or.inr rfl))(hd:(x==("__debug__":Str))=false:=by decide)(cA:(x==("__classdict__":Str))=false:=by decide)
  (hs:swapsWith e (some (.Subscript (.Name x px) k pos')) pos.line X.env=pure false:=by rfl):DSt Z X md rn (.Assign [.Subscript (.Name x px) k pos'] e pos) (Ed md i tk te):=by
 refine (z4 hu (pv i hi hv hd cA) hk he hs).imp ?_;rintro D σ H ⟨B,ρ,E,⟨G,fp,S⟩,h,M⟩;refine S.ev false h λd hd=>⟨trivial,λv G1 H1 S1 x1 dv=>?_⟩;obtain ⟨fv,ks,vs,rfl,h1,h2⟩:=hd;obtain rfl:=dv.JR;obtain ⟨v0,ko,o0⟩:=S1.at_ i _ h1;rw [hm] at o0;obtain ⟨l,φ,rfl,hl,_,nd,es,rfl,pe⟩:=o0.xA;refine ⟨_,ko,S1.ev false h2 λkd zd=>⟨trivial,λu G2 H2 S2 x2 du=>?_⟩⟩;obtain ⟨p,rfl,np,hz,hn⟩:=zd;obtain ⟨c,rfl,hc⟩:=du.C7;obtain ⟨v1,zo,o1⟩:=S2.at_ i _ h1;rw [ko] at zo;cases zo;rw [hm] at o1;obtain ⟨l',RD,e',ER,y9,tS,gb,rfl,JV⟩:=o1.xA;cases e';refine ⟨l,c,gb,ks,vs,p,fv,rfl,rfl,rfl,ER,x2.sub _ _ hc,JV.mono x2.sub,tS,np,hz,M.nx _ hn _ _ ⟨G2,fp,S2.mut ko (b:=l) (by rw [y9];simp) ?_⟩⟩
 rw [hm,y9];refine .inr (.inr ⟨l,_,rfl,aw,rfl, .inr ⟨rfl,_,rfl,?_,_,rfl,JV.snoc hc⟩⟩);rw [jD];refine ⟨tS,by simp,λa ha b hb z=>np ?_⟩
 rw [eI] at hb;rw [←hb,←z];exact ha
end
end L2
namespace Wy
section
variable {α β:Type}
end
theorem getD_mem{l:List Nat}{i:Nat}(h:i<l.length):l.getD i 0∈l:=by
 rw [cM,eG h];exact pY h
end Wy
namespace L2
open PySem PySem.Spec PyProof.Rows
section
variable {Z:DC} {X:Cx} {B:Bs} {md:List Nat} {rn:Nat} {ρ:DN} {σ:St} {H G:Hp} {fp:Nat→List Addr} {k:Expr} {tk:aK} {pos:Pos}
def D3(md:List Nat)(i j:Nat)(tk:aK):bF:=λE ρ=>∃ds,ρ[j]? =some (some (.lst ds))∧tk (mG md false ρ) λkd=>∃(n:Int)(d:D),kd= .int n∧cV ds n=some d∧E.nx (ρ.set i (some d))
theorem yK(i j:Nat){x y:Str}{px py ps:Pos}(hN:X.N.Nodup)(hk:DE Z X k tk)(hm:md.getD i 0=0:=by rfl)(xr:md.getD j 0=1:=by rfl)(hi:X.N[i]? =some x:=by rfl)(hx:Loc X.env.scope x:=by first|exact Or.inl rfl|exact Or.inr rfl)
  (hj:X.N[j]? =some y:=by rfl) (hv:iK X.env.scope y:=by first|exact Or.inl rfl|exact Or.inr (Or.inl rfl) |exact Or.inr (Or.inr rfl)) (hd:(y==("__debug__":Str))=false:=by decide) (cA:(y==("__classdict__":Str))=false:=by decide)
  (hp:jh k:=by exact λ_ _=>rfl) (hs:swapsWith (.Subscript (.Name y py) k ps) (some (.Name x px)) pos.line X.env=pure false:=by rfl)
  (hf:X.fn x=true∨X.env.scope.names.lookup x=some .local:=by first|exact .inl rfl|exact .inr rfl|assumption):DSt Z X md rn (.Assign [.Name x px] (.Subscript (.Name y py) k ps) pos) (D3 md i j tk):=by
 refine (eQ hN hi hx (rY kX (pv j hj hv hd cA) hk hp) hs hf).imp ?_;rintro D σ H ⟨B,ρ,E,⟨G,fp,S⟩,⟨ds,h1,h⟩,M⟩;obtain ⟨l,xs,cZ,e1,e2,e3,aT,put⟩:=S.one xr h1;cases e1;refine ⟨_,e2,S.ev false h λkd zd=>⟨trivial,λv G' H' S' x dv=>?_⟩⟩;obtain ⟨n,d,rfl,ha,hn⟩:=zd;cases dv;obtain ⟨l',fb,Q4,En,gG,rz,Hn,_⟩:=S'.one xr h1;cases En;rw [e2] at gG;cases gG;obtain ⟨u,hu,rk⟩:=nO Hn ha;exact ⟨l,fb,n,u,rfl,rfl,bx.of rz,hu,M.nx _ hn _ _ ⟨G',_,S'.pP hm rk⟩⟩
end
section
variable {Z:DC} {X:Cx} {B:Bs} {md:List Nat} {rn:Nat} {ρ:DN} {σ:St} {H G:Hp} {fp:Nat→List Addr} {k c e k1 k2 et:Expr} {tk te tt tk1 Cb:aK} {tc:bY} {pos:Pos}
def vZ(md:List Nat)(ix iy ia:Nat)(tk:aK)(tc:bY)(te tt tk1 Cb:aK):bF:=λE ρ=>∃fL,ρ[ix]? =some (some (.lst fL))∧(iy<ρ.length∧ia<ρ.length)∧tk (mG md false ρ) λkd=>∃(n:Int)(j:Nat)(ds:List D),kd= .int n∧dZ fL.length n=some j∧fL[j]? =some (.lst ds)∧
 ∀l:Addr,tc (ρ.set iy (some (.lst ds))) λb=>if b=true then te (ρ.set iy (some (.lst ds))) λd=>∃m,d= .int m∧tt ((ρ.set iy (some (.lst ds))).set ia (some (.int m))) λd=>∃i1 i2,d= .tup [.int i1, .int i2]∧
  tk1 (mG md false ((ρ.set iy (some (.obj l))).set ia (some (.int m)))) λd1=>∃n1 j1,d1= .int n1∧dZ ds.length n1=some j1∧Cb (mG md false (((ρ.set iy (some (.obj l))).set ia (some (.int m))).set ix (some (.lst (fL.set j (.lst (ds.set j1 (.int i1)))))))) λd2=>∃n2 j2,d2= .int n2∧dZ ds.length n2=some j2∧
   E.nx (((ρ.set iy (some (.obj l))).set ia (some (.int m))).set ix (some (.lst (fL.set j (.lst ((ds.set j1 (.int i1)).set j2 (.int i2)))))))
 else E.nx (ρ.set iy (some (.obj l)))
theorem b0.as{σ:St}{ρ:DN}{i:Nat}{v:V}{o:Option D}{d:D}(e:b0 Z G σ (ρ.set i o))(h:σ[i]? =some (some v))(dv:Dv Z G v d):b0 Z G σ (ρ.set i (some d)):=by
 have:=e.set (i:=i) dv
 rw [List.set_set] at this
 have hs:σ.set i (some v)=σ:=by
  apply List.ext_getElem?;intro j
  by_cases z:i=j
  ·subst z
   rw [gw (by
    apply Classical.byContradiction;intro q;rw [gT (gz q)] at h;cases h),h]
  ·rw [gx z]
 rw [hs] at this;exact this
theorem SIx.FH{i p:Nat}{fL:List D}{dp:D}{T l:Addr}{ys:List V}(S:SIx Z B md ρ σ H G fp)(hm:md.getD i 0=2)(h:ρ[i]? =some (some (.lst fL)))(hp:fL[p]? =some dp)(hT:σ[i]? =some (some (.ref T)))(hy:H T=some (.lst ys))(hl:ys[p]? =some (.ref l)):T≠l:=by
 obtain ⟨v,hv,o⟩:=S.at_ i _ h;rw [hm] at o;obtain ⟨T',RA,Mv,fj,rfl,e0,HJ,hf,ol⟩:=o.lst;cases e0;rw [hT] at hv;cases hv;rw [hy] at HJ;cases HJ;have nd:=S.nd i;rw [hf] at nd;obtain ⟨nT,vj⟩:=jF.mp nd;obtain ⟨l',xs,ds,e1,e2,e3,e4,e5,e6⟩:=bP.Dt p ol vj hp;rw [hl] at e2;cases e2;exact λz=>nT (by rw [z];exact e5)
theorem uJ(ix iy ia:Nat){x y a:Str}{px py ps pa JU pL mB pJ my pt pi pq:Pos}{kt:Nat}{rest:List Stmt}{u:bF}(hN:X.N.Nodup)(EG:X.calm=true)(hk:DE Z X k tk)(hc:DT Z X c tc)(he:DE Z X e te)(ht:DE Z X et tt)(Ie:DE Z X k1 tk1)(M9:DE Z X k2 Cb)(hu:DSs Z X md rn rest u)
  (Jm:ix≠iy:=by decide) (Jl:ix≠ia:=by decide) (Jn:iy≠ia:=by decide) (A8:md.getD ix 0=2:=by rfl) (Ni:md.getD iy 0=0:=by rfl) (Nd:md.getD ia 0=0:=by rfl)
  (M5:X.N[ix]? =some x:=by rfl) (EN:X.N[iy]? =some y:=by rfl) (M4:X.N[ia]? =some a:=by rfl) (Nc:Loc X.env.scope y:=by first|exact Or.inl rfl|exact Or.inr rfl) (Nb:Loc X.env.scope a:=by first|exact Or.inl rfl|exact Or.inr rfl)
  (ND:iK X.env.scope x:=by first|exact Or.inl rfl|exact Or.inr (Or.inl rfl) |exact Or.inr (Or.inr rfl)) (Iu:iK X.env.scope y:=by first|exact Or.inl rfl|exact Or.inr (Or.inl rfl) |exact Or.inr (Or.inr rfl))
  (EJ:(x==("__debug__":Str))=false:=by decide) (MU:(x==("__classdict__":Str))=false:=by decide) (HY:(y==("__debug__":Str))=false:=by decide) (HX:(y==("__classdict__":Str))=false:=by decide)
  (hp:jh k:=by exact λ_ _=>rfl) (hs:swapsWith (.Subscript (.Name x px) k ps) (some (.Name y py)) pos.line X.env=pure false:=by rfl) (tF:swapsWith e (some (.Name a pa)) JU.line X.env=pure false:=by rfl)
  (hf:X.fn y=true∨X.env.scope.names.lookup y=some .local:=by first|exact .inl rfl|exact .inr rfl|assumption) (MZ:X.fn a=true∨X.env.scope.names.lookup a=some .local:=by first|exact .inl rfl|exact .inr rfl|assumption)
  (MR:∀v,assign (.Subscript (.Name y pL) k1 pJ) X.env v=(do
   let ov ←holding [v] (eval (.Name y pL) X.env)
   let iv ←holding [v,ov] (eval k1 X.env)
   standAt pJ
   holding [v,ov,iv] (setItem ov iv v)
   release [v,ov,iv] []):=by intro _;rfl)
  (y0:∀v,assign (.Subscript (.Name y mB) k2 my) X.env v=(do
   let ov ←holding [v] (eval (.Name y mB) X.env)
   let iv ←holding [v,ov] (eval k2 X.env)
   standAt my
   holding [v,ov,iv] (setItem ov iv v)
   release [v,ov,iv] []):=by intro _;rfl)
  (q1:swapsWithSole [.Tuple [.Subscript (.Name y pL) k1 pJ, .Subscript (.Name y mB) k2 my] kt pt] et pq.line X.env=pure false:=by rfl) (q2:swappedStores [.Tuple [.Subscript (.Name y pL) k1 pJ, .Subscript (.Name y mB) k2 my] kt pt] et X.env=pure none:=by rfl)
  (q3:(assignEach [.Tuple [.Subscript (.Name y pL) k1 pJ, .Subscript (.Name y mB) k2 my] kt pt] X.env).map (·.2)= [assign (.Tuple [.Subscript (.Name y pL) k1 pJ, .Subscript (.Name y mB) k2 my] kt pt) X.env]:=by rfl)
  (q4:(assignEach [.Subscript (.Name y pL) k1 pJ, .Subscript (.Name y mB) k2 my] X.env).map (·.2)=assign (.Subscript (.Name y pL) k1 pJ) X.env::(assignEach [.Subscript (.Name y mB) k2 my] X.env).map (·.2):=by rfl)
  (q5:(assignEach [.Subscript (.Name y mB) k2 my] X.env).map (·.2)=assign (.Subscript (.Name y mB) k2 my) X.env::(assignEach [] X.env).map (·.2):=by rfl)
  (q6:(assignEach [.Subscript (.Name y pL) k1 pJ, .Subscript (.Name y mB) k2 my] X.env).length=2:=by rfl) (q7:(assignEach [.Subscript (.Name y pL) k1 pJ, .Subscript (.Name y mB) k2 my] X.env).findIdx? (·.1)=none:=by rfl):
  DSs Z X md rn (.Assign [.Name y py] (.Subscript (.Name x px) k ps) pos:: .If c [.Assign [.Name a pa] e JU, .Assign [.Tuple [.Subscript (.Name y pL) k1 pJ, .Subscript (.Name y mB) k2 my] kt pt] et pq] [] pi::rest) (oy (vZ md ix iy ia tk tc te tt tk1 Cb) u):=by
 refine (dE (eQ hN EN Nc (rY kX (pv ix M5 ND EJ MU) hk hp) hs hf) (dE (z3 hc (dE (eQ hN M4 Nb he tF MZ) (pK (se ht (wy EG (mx (nW (pv iy EN Iu HY HX) Ie set_list MR) (mx (nW (pv iy EN Iu HY HX) M9 set_list y0) tY q5) q4) q6 q7) q1 q2 q3))) t6) hu)).imp ?_;rintro Dn σ H ⟨B,ρ,E,⟨G,fp,S⟩,⟨fL,hx,⟨ly,la⟩,h⟩,M⟩;obtain ⟨v0,ko,o⟩:=S.at_ ix _ hx;refine ⟨_,ko,S.ev false h λkd zd=>⟨trivial,λv G1 H1 S1 x1 dv=>?_⟩⟩;obtain ⟨n,j,ds,rfl,hj,zc,h⟩:=zd;cases dv;obtain ⟨Tl,ys,l,xs,cZ,e1,e2,e3,e4,e5,e6,aT,_⟩:=S1.two A8 hx zc;cases e1;rw [e2] at ko;cases ko;refine ⟨Tl,ys,n, .ref l,rfl,rfl,bx.of e3,vW e4 hj e5,?_⟩;have h:=h l;have S2:=S1.pP (i:=iy) (v:= .ref l) (d:= .obj l) Ni (.obj l);have Pl:iy<σ.length:=by rw [←S1.len];exact ly
 have Rp:ia<σ.length:=by rw [←S1.len];exact la
 have gy:(σ.set iy (some (V.ref l)))[iy]? =some (some (.ref l)):=gw Pl;have Hm:Dv Z H1 (.ref l) (.lst ds):= .lst e6 (aT.mono S1.ex.sub);refine ⟨H1,_,_, .refl _,S2.mP.as gy Hm,h,λb hb G3 H3 x3=>?_⟩;have S3:=S2.grow (Ext.all S2.ex.sub x3);cases b with
 |false=>exact cD ⟨B,_,E,⟨_,_,S3⟩,(by simpa using hb),M⟩
 |true=>
  refine b6 ?_;rw [if_pos rfl] at hb;have CP:Dv Z H3 (.ref l) (.lst ds):=Hm.mono x3.hh;refine ⟨H3,_,_, .refl _,S3.mP.as gy CP,hb,?_⟩;rintro _ ⟨m,rfl,hb⟩ v G4 H4 x4 Mx;cases Mx;have S4:=(S3.grow (Ext.all S3.ex.sub x4)).pP (i:=ia) (v:= .int m) (d:= .int m) Nd (.int m);have Ey:((σ.set iy (some (V.ref l))).set ia (some (.int m)))[iy]? =some (some (.ref l)):=by rw [gx (Ne.symm Jn)];exact gy
  have cm:∀o:Option D,(ρ.set iy o).set ia (some (.int m))=(ρ.set ia (some (.int m))).set iy o:=λo=>List.set_comm _ _ Jn;have tj:=S4.mP;rw [cm] at tj;have tj:=tj.as Ey (CP.mono x4.hh);rw [←cm] at tj;refine ⟨H4,_,_, .refl _,tj,hb,?_⟩;rintro _ ⟨i1,i2,rfl,hb⟩ v G5 H5 x5 My;obtain ⟨a5,Rz,rfl,h5,d5⟩:=My.kB;obtain ⟨w1,w2,rfl,Mc,Md⟩:=d5.zI;cases Mc;cases Md;have S5:=S4.grow (Ext.all S4.ex.sub x5);refine ⟨a5,_,rfl,dH.of (x5.sub _ _ h5),rfl,?_⟩;refine ⟨_,_,rfl,_,Ey,S5.ev false hb λd1 y4=>⟨trivial,λv G6 H6 S6 x6 Ek=>?_⟩⟩;obtain ⟨n1,j1,rfl,M7,hb⟩:=y4;cases Ek;have Bb:((ρ.set iy (some (.obj l))).set ia (some (.int m)))[ix]? =some (some (.lst fL)):=by rw [gx (Ne.symm Jl),gx (Ne.symm Jm)];exact hx
  have sx:((σ.set iy (some (V.ref l))).set ia (some (.int m)))[ix]? =some (some (.ref Tl)):=by rw [gx (Ne.symm Jl),gx (Ne.symm Jm)];exact e2
  have Eo:H6 Tl=some (.lst ys):=x6.hh _ _ (x5.hh _ _ (x4.hh _ _ (x3.hh _ _ e3)));have ne:Tl≠l:=S6.FH A8 Bb zc sx Eo e5;obtain ⟨T6,RB,l6,QO,Q5,f1,f2,f3,f4,f5,f6,CQ,put⟩:=S6.two A8 Bb zc;cases f1;rw [sx] at f2;cases f2;rw [Eo] at f3;cases f3;rw [e5] at f5;cases f5;refine ⟨l,QO,n1,j1,rfl,rfl,f6,by rw [CQ.length];exact M7,?_⟩
  have S7:=put _ _ (CQ.set (.int i1) j1);refine ⟨_,_,rfl,_,Ey,S7.ev false hb λd2 hd2=>⟨trivial,λv G8 H8 S8 x8 Mz=>?_⟩⟩;obtain ⟨n2,j2,rfl,M8,hb⟩:=hd2;cases Mz
  have lx:ix<((ρ.set iy (some (.obj l))).set ia (some (.int m))).length:=by
   apply Classical.byContradiction;intro q;rw [gT (gz q)] at Bb;cases Bb
  have lj:j<fL.length:=by
   apply Classical.byContradiction;intro q;rw [gT (gz q)] at zc;cases zc
  obtain ⟨T8,RC,l8,QP,Q6,g1,g2,g3,g4,g5,g6,CT,Ka⟩:=S8.two A8 (gw lx) (gw lj);cases g1;rw [sx] at g2;cases g2;rw [x8.hh _ _ (show upd H6 l _ Tl=some (.lst ys) by rw [ay ne];exact Eo)] at g3
  cases g3;rw [e5] at g5;cases g5;refine ⟨l,QP,n2,j2,rfl,rfl,g6,by rw [CT.length,fG];exact M8,rfl,?_⟩
  have S9:=Ka _ _ (CT.set (.int i2) j2);rw [List.set_set,List.set_set] at S9;exact ⟨B,_,E,⟨_,_,S9⟩,hb,M⟩
variable {elt tg iter:Expr} {ifs:List Expr} {scope:Scope} {NC:List Str} {src:List (Option Nat)} {K0:bY} {wi:gU} {g:cW}
theorem vk{i:Nat}{t:fh}{D':Ends}{E:bT}(hm:md.getD i 0=1)(S:SIx Z B md ρ σ H G fp)(h:t ρ λds=>ds.all bU=true∧E.nx (ρ.set i (some (.lst ds))))(M:Meets Z B md rn E D'):kv Z 1 t σ H λv H'=>D'.nx (σ.set i (some v)) H':=by
 refine ⟨H,ρ,_, .refl _,S.mP,h,?_⟩;rintro ds ⟨y8,hd⟩ v f G' H' x o nd nw;have S':=S.grow (Ext.all S.ex.sub x);obtain ⟨a,xs,cZ,fj,rfl,e1,ha,uV,ol⟩:=o.lst;cases e1;obtain ⟨dv,rfl⟩:=ol.flat;have hb:H a=none:=(nw a (by rw [uV];simp)).1
 refine M.nx _ hd _ _ ⟨G,_,S'.qM (f:= [a]) hm (.inl ⟨a,xs,ds,[],rfl,rfl,ha,rfl,(dv.flat y8).own⟩) (by simp) (λb jb=>?_) λb jb j _ hj=>?_⟩
 ·have:b=a:=by simpa using jb
  subst this;exact ⟨S.ex.hh.free hb,(nw b (by rw [uV];simp)).2.1,S.ex.sub.free hb⟩
 ·have:b=a:=by simpa using jb
  subst this;exact (S.nw j b hj).2.1 hb
theorem oF(i:Nat){x:Str}{px gQ:Pos}(hc:X.calm=true)(hN:X.N.Nodup)(c:bE X scope)(dD:b4 scope X.N src NC)(hi:DI Z X tg iter wi)
  (hg:∀ex s H,DG Z (dq X scope NC ex s H) tg g) (ht:∀ex s H,uA Z (dq X scope NC ex s H) ifs K0) (he:∀ex s H,DE Z (dq X scope NC ex s H) elt te)
  (jq:swapsWith (.ListComp elt [⟨tg,iter,ifs,0⟩] scope pos) (some (.Name x px)) gQ.line X.env=pure true:=by rfl) (hm:md.getD i 0=1:=by rfl) (qd:X.N[i]? =some x:=by rfl) (hx:Loc X.env.scope x:=by first|exact Or.inl rfl|exact Or.inr rfl)
  (hf:X.fn x=true∨X.env.scope.names.lookup x=some .local:=by first|exact .inl rfl|exact .inr rfl|assumption)
  (hs:∀x,foldedSetIterable iter X.env x=pure x:=by intro _;rfl):DSt Z X md rn (.Assign [.Name x px] (.ListComp elt [⟨tg,iter,ifs,0⟩] scope pos) gQ) (yw i (A2 wi g K0 te src)):=by
 refine (jS hc hN qd hx c dD hi hg ht he jq hf hs).imp ?_;rintro Dn σ H ⟨B,ρ,E,⟨G,fp,S⟩,h,M⟩;exact oY σ H _ (vk hm S h M)
def D2(md:List Nat)(j:Nat)(tk:aK)(g:cW)(tb:bF):bF:=λE ρ=>∃fL,ρ[j]? =some (some (.lst fL))∧tk (mG md true ρ) λkd=>∃(n:Int)(ds:List D),kd= .int n∧cV fL n=some (.lst ds)∧iT g tb E ds ρ
theorem yJ(j:Nat){y:Str}{py ps:Pos}{body:List Stmt}{tb:bF}(hc:X.calm=true)(hp:PassesOwn (model X.prog X.w) X.A X.env X.xe)(hk:DE Z X k tk)(hg:wV Z X md tg g)(hb:DSs Z X md rn body tb)(hm:md.getD j 0=0:=by rfl)
  (hj:X.N[j]? =some y:=by rfl) (hv:iK X.env.scope y:=by first|exact Or.inl rfl|exact Or.inr (Or.inl rfl) |exact Or.inr (Or.inr rfl)) (hd:(y==("__debug__":Str))=false:=by decide) (cA:(y==("__classdict__":Str))=false:=by decide)
  (Nv:jh k:=by exact λ_ _=>rfl) (hs:∀x,foldedSetIterable (.Subscript (.Name y py) k ps) X.env x=pure x:=by intro _;rfl):DSt Z X md rn (.For tg (.Subscript (.Name y py) k ps) body [] pos) (D2 md j tk g tb):=by
 refine (sg hp hc (tZ (rY kX (pv j hj hv hd cA) hk Nv)) hg hb hs).imp ?_;rintro Dn σ H ⟨B,ρ,E,⟨G,fp,S⟩,⟨fL,h1,h⟩,M⟩;obtain ⟨v0,ko,o⟩:=S.at_ j _ h1;rw [hm] at o;obtain ⟨Ej,_⟩:=o;obtain ⟨a,xs,rfl,ha,NH⟩:=Ej.fo;refine ⟨_,ko,S.ev true h ?_⟩;rintro _ ⟨n,ds,rfl,EE,hf⟩;refine ⟨rfl,λv G1 H1 S1 x1 uK=>?_⟩;cases uK;obtain ⟨u,hu,du⟩:=nO (NH.mono x1.gg) EE;obtain ⟨b,ys,rfl,jb,NI⟩:=du.fo;exact ⟨a,xs,n, .ref b,rfl,rfl,bx.of (S1.ex.sub _ _ (x1.gg _ _ ha)),hu,b,rfl,⟨_,bx.of (S1.ex.sub _ _ jb)⟩,lX S1 (tK jb NI) hf M⟩
def A3(te:aK):fh:=λρ P=>te ρ λd=>∃ns:List Int,d= .lst (ns.map D.int)∧ns.length<64∧∀ms:List Int,ms.Perm ns→ms.Pairwise (·≤·)→P (ms.map D.int)
theorem xc{p:Pos}(hg:Gl X "sorted")(hm:X.mg "sorted"=none)(ha:DE Z X e te)(hs:starEach [e] X.env=(false,eval e X.env)::starEach [] X.env:=by rfl)(dJ:(backTo pos (starEach [] X.env)).any (·.1)=false:=by rfl):DF Z X 1 (.Call (.Name "sorted" p) [e] [] pos) (A3 te):=by
 refine (jR qa hg hm n6 (cK ha eO hs) (by decide) (by decide) hs dJ).imp ?_
 rintro σ H Q ⟨G,ρ,P,s,en,h,q⟩;refine ⟨G,ρ,_,s,en,h,?_⟩;rintro _ ⟨ns,rfl,hl,hp⟩ v G1 H1 x1 dv;cases dv with
 |lst h1 e1=>
  refine ⟨_,ns,rfl,bx.of (by rw [←sZ e1];exact x1.sub _ _ h1),hl,λa ms hn m1 m2=>?_⟩
  obtain ⟨o1,o2,o3⟩:=eZ x1 hn (ar.ints (Z:=Z) (H:=G1) ms);exact q _ (hp _ m1 m2) _ _ _ _ (x1.side hn) o1 o2 o3
end
end L2
namespace yb
open PySem L2 Wb
variable {P:Program} {w:World} {mg:Str→Option Value} {base:Heap} {Z:DC} (T:Txt Z mg)
open Wy
theorem fk(a b:Int)(h:0<b):0≤a%b∧a%b<b:=⟨Int.emod_nonneg _ (by omega),Int.emod_lt_of_pos _ h⟩
theorem Ep{i j:Int}{P:D→Prop}{ρ:DN}(h:P (.bl (decide (i=j)))):dC (.int j) ρ (λb=>rg (.int i) b P):=yq h
theorem qP(w:W)(i:Nat)(r:List Nat):(w.map aq).set i (aq r)=(w.set i r).map aq:=by rw [qX]
theorem kf{α:Type}(l:List α)(k:Nat)(h:k≤l.length):cutD l (some (k:Int)) none=l.drop k:=by
 unfold cutD
 have e1:HT.bo l.length 0 (some (k:Int))=k:=by
  simp only [HT.bo]
  split<;>omega
 have e2:HT.bo l.length l.length none=l.length:=rfl;rw [e1,e2];exact List.take_of_length_le (by simp)
theorem gi{w:W}{p:Nat}(h:p<w.length):cV (w.map aq) (p:Int)=some (aq (row w p)):=dB (lI h)
theorem dQ{ns:List Nat}{p:Nat}(h:p<ns.length):cV (ns.map ae) (p:Int)=some (ae (ns.getD p 0)):=dB (by rw [cT,cM,eG h];rfl)
theorem eD{g:cW}{tb:bF}{E:bT}{n:Nat}{ρ:DN}(I:Nat→DN→Prop)(h0:I 0 ρ)(hs:∀(j:Nat)(ρ:DN),j<n→I j ρ→∀A:DN→Prop,(∀ρ,I (j+1) ρ→A ρ)→g (ae j) ρ λbZ=>tb {nx:=A,ct:=A,bk:=E.nx,rt:=E.rt} bZ)
  (he:∀ρ,I n ρ→E.nx ρ):iT g tb E (di 0 n) ρ:=yS I h0 (λj ρ hj h A hA=>by
 have:=hs j ρ hj h A hA
 unfold ae at this;rw [Int.zero_add];exact this) he
def uD(n:Nat)(ns:List Nat):Prop:=ns.length=n∧ns.Nodup∧∀x∈ns,x<n
theorem dA{n:Nat}{ns:List Nat}(N:uD n ns){x:Nat}(h:x<n):x∈ns:=by
 apply Classical.byContradiction;intro hx
 have:(x::ns).length≤(List.range n).length:=aH (jF.mpr ⟨hx,N.2.1⟩) λy hy=>by
  rcases cF.mp hy with rfl|hy
  ·exact cq.mpr h
  ·exact cq.mpr (N.2.2 y hy)
 rw [j9,dW,N.1] at this;omega
theorem rM{x:Nat}:∀(ns:List Nat)(m:Nat),m<ns.idxOf x→ns[m]? ≠some x
 | [],m,h=>by simp at h
 |a::ns,m,h=>by
  rw [List.idxOf_cons] at h
  by_cases e:(a==x)=true
  ·rw [e] at h;simp at h
  ·rw [pW.mpr e] at h
   cases m with
   |zero=>intro z;simp at z;exact e (by simp [z])
   |succ m=>rw [pS];exact rM ns m (by simpa using h)
theorem u5{ns:List Nat}{x:Nat}{P:D→Prop}(h:x∈ns)(q:P (ae (ns.idxOf x))):bU (ae x)=true∧(ns.map ae).all bU=true∧∃(j:Nat)(z:D),(ns.map ae)[j]? =some z∧fC z (ae x)=true∧(∀(m:Nat) z,m<j→(ns.map ae)[m]? =some z→fC z (ae x)=false)∧P (.int (j:Nat)):=by
 have hl:=qQ.mpr h;have e:ns[ns.idxOf x]? =some x:=by rw [eG hl];exact congrArg some (ux hl)
 refine ⟨rfl,bN _,ns.idxOf x,ae x,by rw [cT,e];rfl,by simp [fC,ae],λm z hm hz=>?_,q⟩
 obtain ⟨y,hy,rfl⟩:=cn hz
 have:y≠x:=by
  rintro rfl;exact rM _ _ hm hy
 have:¬((y:Int)=(x:Int)):=by omega
 simpa [fC,ae] using this
theorem iM{ns:List Nat}{x:Nat}(h:x∈ns):(ns.map ae)[ns.idxOf x]? =some (ae x)∧fC (ae x) (ae x)=true∧∀(m:Nat) z,m<ns.idxOf x→(ns.map ae)[m]? =some z→fC z (ae x)=false:=by
 have:=u5 (P:=λd=>d=ae (ns.idxOf x)) h rfl
 obtain ⟨_,_,j,z,h1,h2,h3,h4⟩:=this;have hl:=qQ.mpr h;have e:ns[ns.idxOf x]? =some x:=by rw [eG hl];exact congrArg some (ux hl)
 refine ⟨by rw [cT,e];rfl,by simp [fC,ae],λm z hm hz=>?_⟩
 obtain ⟨y,hy,rfl⟩:=cn hz
 have:y≠x:=by
  rintro rfl;exact rM _ _ hm hy
 have:¬((y:Int)=(x:Int)):=by omega
 simpa [fC,ae] using this
theorem pM(n:Nat):di 0 n=(List.range n).map λ(x:Nat)=>ae x:=by unfold di ae;simp
theorem iQ{α:Type}{f:α→D}{g:α→PyData}(h:∀a,(f a).py=some (g a)):∀l:List α,iP (l.map f)=some (l.map g)
 | []=>rfl
 |a::l=>by
  have:=iQ h l
  rw [i9,iP,h a,this];rfl
theorem lC(r:List Nat):(aq r).py=some (iV r):=by
 unfold aq iV;rw [D.py,iQ (g:=nD) (λn=>rfl)];rfl
theorem wz(w:W):(az w).py=some (lH w):=by
 unfold az lH;rw [D.py,iQ (g:=iV) lC];rfl
theorem sQ{v w:W}{P:D→Prop}(h:P (.bl (decide (v=w)))):rg (az v) (az w) P:=by
 refine ⟨_,_,wz v,wz w,by have:=sV v;omega,?_⟩
 have:PyData.eqv (lH v) (lH w)=decide (v=w):=by
  by_cases e:v=w
  ·rw [decide_eq_true e];exact (qs v w).mpr e
  ·rw [decide_eq_false e]
   apply pW.mpr;exact λz=>e ((qs v w).mp z)
 rw [if_neg b8,this];exact h
theorem tq(a b:List Nat):PyData.eqv (iV a) (iV b)=decide (a=b):=by
 by_cases e:a=b
 ·rw [decide_eq_true e];exact (lW a b).mpr e
 ·rw [decide_eq_false e]
  apply pW.mpr;exact λz=>e ((lW a b).mp z)
theorem kL{v w:List Nat}{P:D→Prop}(h:P (.bl (decide (v=w)))):rg (aq v) (aq w) P:=by
 refine ⟨_,_,lC v,lC w,by have:=jk v;omega,?_⟩
 rw [if_neg b8,tq];exact h
theorem sR{v w:List Nat}{P:D→Prop}(h:P (.bl (!decide (v=w)))):w4 (aq v) (aq w) P:=by
 refine ⟨_,_,lC v,lC w,by have:=jk v;omega,?_⟩
 rw [if_pos rfl,tq];exact h
variable {P:Program} {w:World} {mg:Str→Option Value} {base:Heap} {Z:DC} (T:Txt Z mg)
def xR:cj:=λds P=>∃(ns:List Int)(k:Nat),ds= [.e8 ns,ae k]∧∀v:Int,P (.int v)
theorem bh:FnOk P w Z.K mg base bS 1 T.d__law_cell_at.f T.d__law_cell_at.fd ["_law_script","_law_k"] (aU Z xR):=by
 have nd:=iD.nd;refine aX T.d__law_cell_at.F iD [0,0] (by decide) (λds R h=>by obtain ⟨_,_,rfl,_⟩:=h;rfl) (λbc A outer s H E ds R hr h=>?_)
 have hu:=hr.units
 refine ⟨_,(ag (bA (aP rO (aa 1) (aF ba rfl T.B.len aZ (ab (aa 0) ah)) (bf _)) (ao (aO (aS (aa 0) (aa 1)))) aQ)
   (ao (aO av))),?_⟩
 obtain ⟨ns,k,rfl,q⟩:=h;refine ⟨_,rfl,_,rfl,?_⟩;refine ⟨_,rfl,bB (λe=>?_) (λe=>?_)⟩
 ·have hk:k<ns.length:=by
   have:=of_decide_eq_true e
   omega
  exact ⟨_,rfl,_,rfl,_,sE (eG hk),q _⟩
 ·exact q 0
def Ar:cj:=λds P=>∃(i:Int),ds= [.int i]∧P (.bl true)
theorem pD:FnOk P w Z.K mg base bS 1 T.d__law_whole.f T.d__law_whole.fd ["_law_found"] (aU Z Ar):=by
 have nd:=jA.nd;refine aX T.d__law_whole.F jA [0] (by decide) (λds R h=>by obtain ⟨_,rfl,_⟩:=h;rfl) (λbc A outer s H E ds R hr h=>?_)
 have hu:=hr.units;refine ⟨_,(ao (aO (jJ (kM "int" (aa 0) rfl T.B.isinstance rfl T.B.int vX) (nQ (v3 (kM "bool" (aa 0) rfl T.B.isinstance rfl T.B.bool sH)))))),?_⟩;obtain ⟨i,rfl,q⟩:=h;exact ⟨_,rfl,rfl,true,rfl,b6 ⟨_,rfl,rfl,false,rfl,q⟩⟩
def vH:cj:=λds P=>∃(c k:Int),ds= [.int c, .int k]∧(0≤k∧k<1000)∧∀v:Int,P (.int v)
theorem mod_lt(x:Int):0≤x%2147483629∧x%2147483629<2147483629:=⟨Int.emod_nonneg _ (by decide),Int.emod_lt_of_pos _ (by decide)⟩
theorem mr:FnOk P w Z.K mg base bS 1 T.d__law_reserve.f T.d__law_reserve.fd ["_law_cell","_law_k"] (aU Z vH):=by
 have nd:=iF.nd;refine aX T.d__law_reserve.F iF [0,0,0] (by decide) (λds R h=>by obtain ⟨_,_,rfl,_⟩:=h;rfl) (λbc A outer s H E ds R hr h=>?_)
 have hu:=hr.units
 refine ⟨_,(ag (aC false 2 nd (ax bp (ax bq (ax bp (aa 0) av) (ax fN av (ax bq (aa 1) av))) av))
   (ao (aO (ax bq av (ax bp (ax bq (ax bq (ax fN (aa 2) (aa 2)) (ax fN av (aa 2))) (ax fN av (aa 1))) av))))),?_⟩
 obtain ⟨c,k,rfl,hk,q⟩:=h;refine ⟨_,rfl,(by show (0:Int)<2147483629;decide),_,rfl, .inl ⟨by decide,by decide⟩,(by show (0:Int)<2147483629;decide),trivial,?_⟩
 have:=mod_lt (c%2147483629+48271*(k+1))
 refine ⟨_,rfl,_,rfl, .inl ⟨by dsimp only;omega,by dsimp only;omega⟩,_,rfl, .inl ⟨by decide,by decide⟩,_,rfl, .inl ⟨by decide,by decide⟩,(by show (0:Int)<2147483629;decide),q _⟩
theorem sS{t u:bF}{E:bT}{ρ:DN}(h:t {E with nx:=u E} ρ):oy t u E ρ:=h
theorem zr{c:bY}{md:List Nat}{m:Bool}{i:Nat}{te:aK}{E:bT}{ρ:DN}{x0:Int}(Ok:Int→Prop)(h0:ρ[i]? =some (some (.int x0)))(E9:Ok x0)(hc:∀Q:Bool→Prop,(∀b,Q b)→c ρ Q)(ht:∀Q:D→Prop,(∀x:Int,Ok x→Q (.int x))→te (mG md m ρ) Q)
  (hk:∀x:Int,Ok x→E.nx (ρ.set i (some (.int x)))):ox c (sT md m i te) kg E ρ:=by
 refine hc _ λb=>bB (λ_=>ht _ λx hx=>⟨?_,hk x hx⟩) (λ_=>?_)
 ·cases m
  ·trivial
  ·rfl
 ·have:=hk x0 E9
  obtain ⟨hi,e⟩:=dU.mp h0;rw [←e,List.set_getElem_self] at this;exact this
def bw(l:List Int):List D:=l.map D.int
theorem oQ(l:List Int):(bw l).length=l.length:=aV _
theorem mQ(l:List Int)(x:Int):bw (l++ [x])=bw l++ [.int x]:=cE ..
theorem js{l:List Int}{p:Nat}(h:p<l.length):cV (bw l) (p:Int)=some (.int (l.getD p 0)):=dB (by unfold bw;rw [cT,cM,eG h];rfl)
def An:cj:=λds P=>∃(ns:List Int)(k n:Nat),ds= [.e8 ns,ae k,ae n]∧k≤10∧n≤14∧∀xs:List Int,xs.length=n→P (.lst (bw xs))
theorem gf:FnOk P w Z.K mg base bS 2 T.d__law_draws.f T.d__law_draws.fd ["_law_script","_law_at","_law_many"] (aU Z An):=by
 have nd:=jw.nd;refine aX T.d__law_draws.F jw [0,0,0,0,1,0,0,0] (by decide) (λds R h=>by obtain ⟨_,_,_,rfl,_⟩:=h;rfl) (λbc A outer s H E ds R hr h=>?_)
 have hu:=hr.units
 refine ⟨_,(ag (aC false 3 nd (aB T.d__law_cell_at (bh T) hr (ab (aa 0) (ab (aa 1) ah))))
   (ag (dO 4 nd (fJ ah))
   (ag (bA (aP (gZ hu) (ax bp (aB T.d__law_cell_at (bh T) hr (ab (aa 0) (ab av ah))) av) av (bf _)) (ag (aC false 5 nd (aa 3))
   (ag (f9 rfl PassesOwn.never (dr rfl T.B.range (ab (aa 2) ah)) (aR 6 nd) (ag (bA (aP rO (aa 3) av (bf _)) (ao (aC false 3 nd (aB T.d__law_reserve (mr T) hr (ab (aa 5) (ab (ax bq (ax fN av (aa 1)) (aa 6)) ah))))) aQ)
   (ag (fK false 4 (ax bp (aa 3) (ax rQ av av)))
   (ao (aC false 3 nd (ax eN (aa 3) (ax rQ av av)))))))
   (ao (aO (aa 4))))) aQ)
   (ag (aC false 7 nd (ax bp (aa 3) av))
   (ag (f9 rfl PassesOwn.never (dr rfl T.B.range (ab (aa 2) ah)) (aR 6 nd) (ag (aC false 7 nd (ax bp (ax bq (ax bq (ax bq (ax fN (aa 7) (aa 7)) (ax fN av (aa 7))) (ax fN av (aa 6))) av) av))
   (ao (fK false 4 (ax eN (aa 7) av)))))
   (ao (aO (aa 4)))))))),?_⟩
 obtain ⟨ns,k,n,rfl,hk,hn,q⟩:=h;refine ⟨_,rfl,_,rfl,ns,k,rfl,λc=>⟨trivial,?_⟩⟩;refine ⟨by show 0≤sizeLine;decide,?_⟩
 refine ⟨_,rfl,ns,0,rfl,λc0=>⟨(by show (0:Int)<2;decide),Ep ⟨_,rfl,bB (λ_=>?_) (λ_=>?_)⟩⟩⟩
 ·refine ⟨_,rfl,trivial,?_⟩
  refine ⟨_,rfl,⟨by show-(2^62)≤(n:Int);omega,by show (n:Int)<2^62;omega⟩,?_⟩
  rw [show ((n:Int)).toNat=n by omega]
  refine eD (λj ρ=>∃(y:Int)(xs:List Int)(o6:Option D),ρ= [some (.e8 ns),some (ae k),some (ae n),some (.int y),some (.lst (bw xs)),some (.int c),o6,none]∧xs.length=j) ⟨c,[],_,rfl,rfl⟩ ?_ ?_
  ·rintro j _ hj ⟨y,xs,o6,rfl,hl⟩ A hA
   refine sS ?_;refine zr (λ_=>True) rfl trivial (λQ hQ=>⟨_,rfl,_,rfl,hQ _⟩) (λQ hQ=>?_) λy1 _=>?_
   ·exact ⟨_,rfl,_,rfl, .inl ⟨by decide,by decide⟩,_,rfl,_,_,rfl,⟨by omega,by omega⟩,λv=>hQ _ trivial⟩
   refine ⟨_,rfl,_,rfl,⟨by decide,by decide⟩,(by show (0:Int)<10^9;decide),trivial,bI (by rw [oQ];omega),?_⟩
   refine ⟨_,rfl,⟨by decide,by decide⟩,⟨by decide,by decide⟩,trivial,?_⟩
   exact hA _ ⟨_,xs++ [_],some (ae j),by rw [mQ];rfl,by rw [cu,hl];rfl⟩
  ·rintro _ ⟨y,xs,o6,rfl,hl⟩
   exact ⟨_,rfl,q xs hl⟩
 ·refine ⟨_,rfl,(by show (0:Int)<2147483629;decide),trivial,?_⟩
  refine ⟨_,rfl,⟨by show-(2^62)≤(n:Int);omega,by show (n:Int)<2^62;omega⟩,?_⟩
  rw [show ((n:Int)).toNat=n by omega]
  refine eD (λj ρ=>∃(y:Int)(xs:List Int)(o6:Option D),ρ= [some (.e8 ns),some (ae k),some (ae n),some (.int c),some (.lst (bw xs)),none,o6,some (.int y)]∧xs.length=j∧0≤y∧y<2147483629) ⟨_,[],_,rfl,rfl,mod_lt c⟩ ?_ ?_
  ·rintro j _ hj ⟨y,xs,o6,rfl,hl,hy⟩ A hA
   refine ⟨_,rfl,_,rfl, .inl ⟨by omega,by omega⟩,_,rfl, .inl ⟨by decide,by decide⟩,_,rfl, .inl ⟨by decide,by decide⟩,(by show (0:Int)<2147483629;decide),trivial,?_⟩
   refine ⟨_,rfl,_,rfl,⟨by decide,by decide⟩,trivial,bI (by rw [oQ];omega),?_⟩
   exact hA _ ⟨_,xs++ [_],some (ae j),by rw [mQ];rfl,by rw [cu,hl];rfl,mod_lt _⟩
  ·rintro _ ⟨y,xs,o6,rfl,hl,hy⟩
   exact ⟨_,rfl,q xs hl⟩
variable {P:Program} {w:World} {mg:Str→Option Value} {base:Heap} {Z:DC} (T:Txt Z mg)
structure jH (w:W) (r:List Nat):Prop where
 ne:0<r.length
 sz:r.length≤196
 lt:∀k,k<r.length→r.getD k 0<w.length
 tie:2≤w.length→∀k,k<r.length→r.getD ((k+(r.length-1))%r.length) 0∈row w (r.getD k 0)
def zz(d:Nat×Nat):Int×Int:=(d.1,d.2)
theorem Ci{a b:Nat×Nat}(h:zz a=zz b):a=b:=Prod.ext (by have:=(Prod.mk.inj h).1;omega) (by have:=(Prod.mk.inj h).2;omega)
theorem wR{d:Nat×Nat}{l:List (Nat×Nat)}:zz d∈l.map zz↔d∈l:=by
 rw [dX];exact ⟨λ⟨a,ha,e⟩=>by rw [←Ci e];exact ha,λh=>⟨d,h,rfl⟩⟩
structure Cl (w:W) (ds:List (Nat×Nat)):Prop where
 nd:ds.Nodup
 dart:∀e∈ds,cQ w e
 step:∀e,cQ w e→(e∈ds↔vo w e∈ds)
theorem Cl.aY{w:W}{ds:List (Nat×Nat)}(c:Cl w ds)(g:Good w){d:Nat×Nat}(hd:cQ w d):∀k,Wb.aY w k d∈ds↔d∈ds
 |0=>Iff.rfl
 |k+1=>(c.step _ (bO g hd k)).symm.trans (c.aY g hd k)
theorem cP{w:W}{d e:Nat×Nat}{k:Nat}:e∈walk w d k↔∃i,i<k∧aY w i d=e:=by
 unfold walk;rw [dX];exact ⟨λ⟨i,hi,e⟩=>⟨i,cq.mp hi,e⟩,λ⟨i,hi,e⟩=>⟨i,cq.mpr hi,e⟩⟩
theorem Cl.len{w:W}{ds:List (Nat×Nat)}(c:Cl w ds)(g:Good w)(cz:w.length≤14):ds.length≤196:=by
 have c1:=kh g;have c2:w.length*w.length≤14*14:=Nat.mul_le_mul cz cz
 have:=aH c.nd λe he=>kz.mpr (c.dart e he)
 omega
theorem Cl.nodup{w:W}{ds:List (Nat×Nat)}(c:Cl w ds)(g:Good w){d:Nat×Nat}(hd:cQ w d){k:Nat}(nd:0<k→d∉ds)(hk:∀j,0<j→j<k→Wb.aY w j d≠d):(ds++walk w d k).Nodup:=by
 rw [jD];refine ⟨c.nd,m9 g hd hk,λa ha b hb z=>?_⟩;obtain ⟨i,hi,rfl⟩:=cP.mp hb;rw [z] at ha;exact nd (by omega) ((c.aY g hd i).mp ha)
theorem Cl.back{w:W}{ds:List (Nat×Nat)}(c:Cl w ds)(g:Good w){d:Nat×Nat}(hd:cQ w d){k:Nat}(k0:0<k)(nd:d∉ds)(hk:∀j,0<j→j<k→Wb.aY w j d≠d)(h:Wb.aY w k d∈ds++walk w d k):Wb.aY w k d=d:=by
 rcases b9.mp h with h|h
 ·exact absurd ((c.aY g hd k).mp h) nd
 ·obtain ⟨i,hi,e⟩:=cP.mp h
  have e2:Wb.aY w i d=Wb.aY w i (Wb.aY w (k-i) d):=by rw [←oS (k-i) i,show i+(k-i)=k by omega];exact e
  have e3:=(oT g hd (bO g hd _) i e2).symm
  by_cases z:i=0
  ·subst z;exact e3
  ·exact absurd e3 (hk (k-i) (by omega) (by omega))
theorem Cl.grow{w:W}{ds:List (Nat×Nat)}(c:Cl w ds)(g:Good w){d:Nat×Nat}(hd:cQ w d){k:Nat}(k0:0<k)(nd:d∉ds)(hk:∀j,0<j→j<k→Wb.aY w j d≠d)(e:Wb.aY w k d=d):Cl w (ds++walk w d k):=by
 refine ⟨c.nodup g hd (λ_=>nd) hk,λx hx=>?_,λx hx=>?_⟩
 ·rcases b9.mp hx with h|h
  ·exact c.dart x h
  ·exact kG g hd x h
 ·rw [b9,b9,←c.step x hx]
  refine or_congr Iff.rfl ⟨λh=>?_,λh=>?_⟩
  ·obtain ⟨i,hi,rfl⟩:=cP.mp h
   by_cases z:i+1=k
   ·exact cP.mpr ⟨0,k0,by show d=Wb.aY w (i+1) d;rw [z,e]⟩
   ·exact cP.mpr ⟨i+1,by omega,rfl⟩
  ·obtain ⟨i,hi,z⟩:=cP.mp h
   cases i with
   |zero=>
    obtain ⟨m,rfl⟩:∃m,k=m+1:=⟨k-1,by omega⟩
    refine cP.mpr ⟨m,by omega,pj g (bO g hd m) hx ?_⟩
    exact e.trans z
   |succ i=>exact cP.mpr ⟨i,by omega,pj g (bO g hd i) hx z⟩
theorem mH{w:W}{d:Nat×Nat}{k i:Nat}(h:i<k):((walk w d k).map (·.1)).getD i 0=(aY w i d).1:=by
 unfold walk;rw [lP,cM,cT,uw h];rfl
theorem zw{w:W}(g:Good w)(cz:w.length≤14){d:Nat×Nat}(hd:cQ w d){k:Nat}(k0:0<k)(hk:∀j,0<j→j<k→Wb.aY w j d≠d)(e:Wb.aY w k d=d):jH w ((walk w d k).map (·.1)):=by
 have c1:=kh g;have c2:w.length*w.length≤14*14:=Nat.mul_le_mul cz cz;have c3:=uj g hd hk;have l:((walk w d k).map (·.1)).length=k:=by rw [aV,fW]
 have st:∀i,(aY w i d).1∈row w (aY w (i+1) d).1:=λi=>g.sym _ _ (bO g hd i);refine ⟨by omega,by omega,λi hi=>?_,λ_ i hi=>?_⟩
 ·rw [l] at hi
  rw [mH hi];exact bR (bO g hd i)
 ·rw [l] at hi ⊢
  rw [mH hi,mH (nz _ k0)];cases i with
  |zero=>
   obtain ⟨m,rfl⟩:∃m,k=m+1:=⟨k-1,by omega⟩
   have:=st m
   rw [e] at this;rw [nv,nu (by omega)];exact this
  |succ i=>
   rw [show i+1+(k-1)=i+k by omega,Nat.add_mod_right,nu (by omega)];exact st i
theorem zL{w:W}(g:Good w)(h:w.length=1):w= [[]]:=by
 match w,h with
 | [r],_=>
  cases r with
  |nil=>rfl
  |cons a r=>
   have m:a∈row [a::r] 0:=eH
   have:=g.rng 0 a m
   have e:a=0:=by simpa using this
   subst e;exact absurd m (g.irr 0)
theorem uM{w:W}(g:Good w)(h:2≤w.length):0<(row w 0).length:=by
 apply Nat.pos_of_ne_zero;intro z;have z:row w 0= []:=List.length_eq_zero_iff.mp z
 have:=mK g (S:=λp=>p=0) rfl (λp q hp hq=>by subst hp;rw [z] at hq;cases hq) 1 (by omega)
 omega
def uf:cj:=λds P=>∃(w:W),ds= [az w]∧Good w∧1≤w.length∧w.length≤14∧∀rs:List (List Nat),0<rs.length→rs.length≤196→(∀r∈rs,jH w r)→P (.lst (rs.map aq))
theorem pB:FnOk P w Z.K mg base bS 1 T.d__law_lands.f T.d__law_lands.fd ["_law_turns"] (aU Z uf):=by
 have nd:=jy.nd;refine aX T.d__law_lands.F jy [0,98,1,0,0,1,0,0] (by decide) (λds R h=>by obtain ⟨_,rfl,_⟩:=h;rfl) (λbc A outer s H E ds R hr h=>?_)
 have hu:=hr.units
 refine ⟨_,(ag (bA (aP (gZ hu) (aa 0) (bJ (ab (bJ ah) ah)) (bf _)) (ao (aO (bJ (ab (bJ (ab av ah)) ah)))) aQ)
   (ag (yI 1 nd)
   (ag (dO 2 nd (fJ ah))
   (ag (f9 rfl PassesOwn.never (dr rfl T.B.range (ab (aF ba rfl T.B.len aZ (ab (aa 0) ah)) ah)) (aR 3 nd) (ao (dh rfl PassesOwn.never (bD (aS (aa 0) (aa 3))) (aR 4 nd) (ag (dO 5 nd (fJ ah))
   (ag (aC false 6 nd (eJ (ab (aa 3) (ab (aa 4) ah))))
   (ag (ie PassesOwn.never (aP (vt hu) (aa 6) (aa 1) (by with_unfolding_all rfl)) (ag (yN 1 hu (aa 6) lT)
   (ag (fK false 5 (aS (aa 6) av))
   (ag (aC false 7 nd (aS (aa 0) (aS (aa 6) av)))
   (ao (aC false 6 nd (eJ (ab (aS (aa 6) av) (ab (aS (aa 7) (ax bp (ax bq (lU (aa 7) (aS (aa 6) av)) av) (aF ba rfl T.B.len aZ (ab (aa 7) ah)))) ah)))))))))
   (ao (bA (aP (rP hu) (aa 5) (bJ ah) (bf _)) (ao (yH 2 5)) aQ))))))))
   (ao (aO (aa 2))))))),?_⟩
 obtain ⟨w',rfl,g,h1,cz,q⟩:=h;have lw:(w'.map aq).length=w'.length:=aV _;refine ⟨_,rfl,by show 0≤sizeLine;decide,by show 1≤sizeLine;decide,?_⟩
 refine (?_:rg (az w') (az [[]]) _);refine sQ ⟨_,rfl,bB (λe=>?_) (λe=>?_)⟩
 ·obtain rfl:w'= [[]]:=of_decide_eq_true e
  refine ⟨by show 1≤sizeLine;decide,by show 1≤sizeLine;decide,?_⟩
  refine q [[0]] (by decide) (by decide) λr hr=>?_
  rw [eI] at hr;subst hr;refine ⟨by decide,by decide,λk hk=>?_,λh=>absurd h (by decide)⟩
  have:k=0:=by simpa using hk
  subst this;decide
 have n2:2≤w'.length:=Classical.byContradiction λz=>of_decide_eq_false e (zL g (by omega))
 have r0:=uM g n2;refine ⟨by show 0≤sizeLine;decide,?_⟩
 refine ⟨_,rfl,⟨by omega,by show ((w'.map aq).length:Int)<2^62;omega⟩,?_⟩
 rw [show (((w'.map aq).length:Int)).toNat=w'.length by omega]
 refine eD (λj ρ=>∃(ds:List (Nat×Nat))(vs:List FV)(rs:List (List Nat))(o3 o4 o5 o6 o7:Option D),ρ= [some (az w'),some (.x (.lu (ds.map zz) vs)),some (.lst (rs.map aq)),o3,o4,o5,o6,o7]∧Cl w' ds∧(0<j→0<ds.length)∧(0<ds.length→0<rs.length)∧rs.length≤ds.length∧∀r∈rs,jH w' r)
  ⟨[],[],[],_,_,_,_,_,rfl,⟨fH,(λe h=>nomatch h),λe _=>⟨(λh=>nomatch h),λh=>nomatch h⟩⟩,(λh=>by omega),id,bC _,λr h=>nomatch h⟩ ?_ ?_
 ·rintro p _ hp ⟨ds,vs,rs,o3,o4,o5,o6,o7,rfl,C,rp,rq,rl,ok⟩ A hA
  refine ⟨_,rfl,_,rfl,_,gi hp,?_⟩
  refine bQ (λm ρ=>∃(ds:List (Nat×Nat))(vs:List FV)(rs:List (List Nat))(o4 o5 o6 o7:Option D),ρ= [some (az w'),some (.x (.lu (ds.map zz) vs)),some (.lst (rs.map aq)),some (ae p),o4,o5,o6,o7]∧Cl w' ds∧(0<p∨0<m→0<ds.length)∧(0<ds.length→0<rs.length)∧rs.length≤ds.length∧∀r∈rs,jH w' r)
   ⟨ds,vs,rs,_,_,_,_,rfl,C,(λh=>h.elim rp λh=>by omega),rq,rl,ok⟩ ?_ ?_
  ·clear rp rq rl ok C
   rintro m _ _ hd ⟨ds,vs,rs,o4,o5,o6,o7,rfl,C,rp,rq,rl,ok⟩ A hA;obtain ⟨q',hq,rfl⟩:=cn hd;have de:cQ w' (p,q'):=ee hq;have c1:=kh g;have c2:w'.length*w'.length≤14*14:=Nat.mul_le_mul cz cz;have cl:=C.len g cz;refine ⟨by show 0≤sizeLine;decide,?_⟩
   refine ⟨_,rfl,_,rfl,by show 2≤sizeLine;decide,trivial,?_⟩
   refine gu (λm ρ=>∃(k:Nat)(vs:List FV)(o7:Option D),ρ= [some (az w'),some (.x (.lu ((ds++walk w' (p,q') k).map zz) vs)),some (.lst (rs.map aq)),some (ae p),some (ae q'),some (aq ((walk w' (p,q') k).map (·.1))),some (pairD (aY w' k (p,q'))),o7]∧m+k=200∧(0<k→(p,q')∉ds)∧(∀j,0<j→j<k→aY w' j (p,q')≠(p,q'))) 200 ⟨0,vs,_,by rw [show walk w' (p,q') 0= [] from rfl,pZ];rfl,rfl,(λh=>by omega),λj h1 h2=>by omega⟩ ?_
   rintro m _ ⟨k,vs,o7,rfl,mk,nd,hk⟩;have kl:=uj g de hk;have nn:=C.nodup g de nd hk
   have nl:(ds++walk w' (p,q') k).length≤196:=by
    have:=aH nn λe he=>kz.mpr ((b9.mp he).elim (C.dart e) (kG g de e))
    omega
   have dk:=bO g de k;have hs:=g.sym _ _ dk;refine ⟨_,rfl,_,rfl,zz (aY w' k (p,q')),_,_,rfl,rfl,_,rfl,?_⟩;refine (?_:if (if true=true then !decide (zz (aY w' k (p,q'))∈(ds++walk w' (p,q') k).map zz) else _)=true then _ else _);rw [if_pos rfl,show decide (zz (aY w' k (p,q'))∈(ds++walk w' (p,q') k).map zz)=decide (aY w' k (p,q')∈ds++walk w' (p,q') k) from decide_eq_decide.mpr wR];refine bB (λc=>?_) (λc=>?_)
   ·have c:aY w' k (p,q')∉ds++walk w' (p,q') k:=by simpa using c
    have eX:=bR hs;have Rw:=e7 g (aY w' k (p,q')).2;have lr:((row w' (aY w' k (p,q')).2).map ae).length=(row w' (aY w' k (p,q')).2).length:=aV _;have pos:0<(row w' (aY w' k (p,q')).2).length:=uu hs;have e0:(0:Int)<(((row w' (aY w' k (p,q')).2).map ae).length:Int):=by rw [lr];omega
    refine ⟨.bl true,_,_,rfl,rfl,_,rfl,zz _,rfl,(λz=>c (wR.mp z)),by rw [aV];omega,?_⟩
    refine ⟨_,rfl,_,rfl,_,rfl,trivial,bI (by rw [aV,aV,fW];omega),?_⟩
    refine ⟨_,rfl,_,rfl,_,rfl,_,gi eX,trivial,?_⟩;have fx:=iM hs;refine ⟨_,rfl,_,rfl,_,rfl,_,rfl,_,rfl,_,rfl,_,rfl,rfl,bN _,_,_,fx.1,fx.2.1,fx.2.2,?_⟩;refine ⟨_,rfl,e0,?_⟩;have em:(((row w' (aY w' k (p,q')).2).idxOf (aY w' k (p,q')).1:Nat):Int)+1=(((row w' (aY w' k (p,q')).2).idxOf (aY w' k (p,q')).1+1:Nat):Int):=by omega
    have et:((((row w' (aY w' k (p,q')).2).idxOf (aY w' k (p,q')).1:Nat):Int)+1)%(((row w' (aY w' k (p,q')).2).map ae).length:Int)=((((row w' (aY w' k (p,q')).2).idxOf (aY w' k (p,q')).1+1)%(row w' (aY w' k (p,q')).2).length:Nat):Int):=by rw [lr,em,Int.natCast_emod]
    refine ⟨ae (iR (row w' (aY w' k (p,q')).2) (aY w' k (p,q')).1),?_,by show 2≤sizeLine;decide,trivial,m-1,by omega,k+1,vs++ [.bl true],some (aq (row w' (aY w' k (p,q')).2)),?_,by omega,λ_=>?_,λj h1 h2=>?_⟩
    ·show cV ((row w' (aY w' k (p,q')).2).map ae) ((λi j=>i%j) _ _)=_
     dsimp only;rw [et];exact dQ (nz _ pos)
    ·have e1:(ds++walk w' (p,q') (k+1)).map zz=(ds++walk w' (p,q') k).map zz++ [zz (aY w' k (p,q'))]:=by rw [pR,←lN,cE];rfl
     have e2:aq ((walk w' (p,q') (k+1)).map (·.1))= .lst (((walk w' (p,q') k).map (·.1)).map ae++ [ae (aY w' k (p,q')).1]):=by unfold aq;rw [pR,cE,cE];rfl
     rw [e1,e2];rfl
    ·by_cases z:0<k
     ·exact nd z
     ·obtain rfl:k=0:=by omega
      exact λh=>c (fc _ h)
    ·by_cases z:j=k
     ·subst z
      exact λh=>c (dg _ (cP.mpr ⟨0,h1,h.symm⟩))
     ·exact hk j h1 (by omega)
   ·have c:aY w' k (p,q')∈ds++walk w' (p,q') k:=of_decide_eq_true (by simpa only [Bool.not_eq_false'] using c)
    refine ⟨_,rfl,by show 0≤sizeLine;decide,?_⟩
    refine (?_:w4 (aq _) (aq []) _);refine sR ⟨_,rfl,bB (λe=>?_) (λe=>?_)⟩
    ·have k0:0<k:=Nat.pos_of_ne_zero λz=>by subst z;exact absurd e (by simp [walk])
     have bk:=C.back g de k0 (nd k0) hk c;have C2:=C.grow g de k0 (nd k0) hk bk;have L:=zw g cz de k0 hk bk;refine ⟨_,_,rfl,rfl,bI (by rw [aV];omega),?_⟩
     refine hA _ ⟨ds++walk w' (p,q') k,vs,rs++ [(walk w' (p,q') k).map (·.1)],some (ae q'),none,some (pairD (aY w' k (p,q'))),o7,?_,C2,λ_=>?_,λ_=>?_,?_,λr hr=>?_⟩
     ·rw [cE (f:=aq)];rfl
     ·rw [cu,fW];omega
     ·rw [cu];exact Nat.succ_pos _
     ·rw [cu,cu,fW];simp only [lM];omega
     ·rcases b9.mp hr with h|h
      ·exact ok r h
      ·rw [eI] at h;rw [h];exact L
    ·have k0:k=0:=by
      have e:(walk w' (p,q') k).map (·.1)= []:=of_decide_eq_true (by simpa only [Bool.not_eq_false'] using e)
      have:=congrArg List.length e
      rwa [aV,fW] at this
     subst k0;have e0:ds++walk w' (p,q') 0=ds:=pZ _;rw [e0] at c;refine hA _ ⟨ds,vs,rs,_,_,_,_,by rw [e0],C,λ_=>uu c,rq,rl,ok⟩
  ·rintro _ ⟨ds,vs,rs,o4,o5,o6,o7,rfl,C,rp,rq,rl,ok⟩
   refine hA _ ⟨ds,vs,rs,_,_,_,_,_,rfl,C,λ_=>rp ?_,rq,rl,ok⟩
   by_cases z:p=0
   ·subst z;right;rw [aV];exact r0
   ·left;omega
 ·rintro _ ⟨ds,vs,rs,o3,o4,o5,o6,o7,rfl,C,rp,rq,rl,ok⟩
  have:=C.len g cz
  exact ⟨_,rfl,q rs (rq (rp (by omega))) (by omega) ok⟩
variable {P:Program} {w:World} {mg:Str→Option Value} {base:Heap} {Z:DC} (T:Txt Z mg)
structure Cn (r ks:List Nat):Prop where
 ne:0<ks.length
 lt:∀k∈ks,k<r.length
 nd:(ks.map λk=>r.getD k 0).Nodup
def xV:cj:=λds P=>∃(r:List Nat)(n:Int),ds= [aq r, .int n]∧0<r.length∧r.length≤196∧∀ks,Cn r ks→P (aq ks)
theorem nH:FnOk P w Z.K mg base bS 1 T.d__law_places.f T.d__law_places.fd ["_law_land","_law_number"] (aU Z xV):=by
 have nd:=iX.nd;refine aX T.d__law_places.F iX [0,0,0,1,0] (by decide) (λds R h=>by obtain ⟨_,_,rfl,_⟩:=h;rfl) (λbc A outer s H E ds R hr h=>?_)
 have hu:=hr.units
 refine ⟨_,(ag (aC false 2 nd (aa 1))
   (ag (dO 3 nd (fJ ah))
   (ag (f9 rfl PassesOwn.never (dr rfl T.B.range (ab (aF ba rfl T.B.len aZ (ab (aa 0) ah)) ah)) (aR 4 nd) (ag (bA (DW.dt (rm (aP (gZ hu) (ax bp (aa 1) av) av (bf _)) (oG (aP jQ (aS (aa 0) (aa 4)) (oA (NC:= ["_law_at","_law_land"]) (src:= [none,some 0]) rfl (lS (au dR)) ⟨rfl,rfl,trivial⟩ (bD (aa 3)) (λ_ _ _=>(b5 0 (show (["_law_at","_law_land"]:List Str).Nodup from by decide+kernel))) (λ_ _ _=>eW) (λ_ _ _=>(aS (aa 1) (aa 0)))) (by with_unfolding_all rfl))))) (ao (fK false 3 (aa 4))) aQ)
   (ao (aC false 1 nd (ax eN (aa 1) av)))))
   (ag (bA (aP (gZ hu) (aa 3) (bJ ah) (bf _)) (ao (aO (bJ (ab (ax bp (aa 2) (aF ba rfl T.B.len aZ (ab (aa 0) ah))) ah)))) aQ)
   (ao (aO (aa 3))))))),?_⟩
 obtain ⟨r,n,rfl,r0,Q1,q⟩:=h;have lr:(r.map ae).length=r.length:=aV _;refine ⟨_,rfl,trivial,?_⟩;refine ⟨by show 0≤sizeLine;decide,?_⟩
 refine ⟨_,rfl,⟨by omega,by show ((r.map ae).length:Int)<2^62;omega⟩,?_⟩
 rw [show (((r.map ae).length:Int)).toNat=r.length by omega]
 refine eD (λj ρ=>∃(y:Int)(ks:List Nat)(o4:Option D),ρ= [some (aq r),some (.int y),some (.int n),some (aq ks),o4]∧ks.length≤j∧(∀k∈ks,k<r.length)∧(ks.map λk=>r.getD k 0).Nodup) ⟨n,[],_,rfl,bC _,(λk h=>nomatch h),fH⟩ ?_ ?_
 ·rintro j _ hj ⟨y,ks,o4,rfl,hl,lt,nk⟩ A hA
  refine ⟨_,rfl,(by show (0:Int)<2;decide),Ep ⟨_,rfl,bB (λ_=>?_) (λ_=>cD ⟨_,rfl,⟨by decide,by decide⟩,trivial,hA _ ⟨_,ks,some (ae j),rfl,by omega,lt,nk⟩⟩)⟩⟩
  refine ⟨_,rfl,_,rfl,_,dQ hj,_,rfl,?_⟩;refine gN (ρ:= [none,some (aq r)]) ae (λk=>ae (r.getD k 0)) ks _ (λk hk Y hY=>?_) rfl (small (by omega)) λaE=>?_
  ·exact ⟨_,rfl,_,rfl,_,dQ (lt k hk),hY⟩
  have e:(ks.map λk=>ae (r.getD k 0))=(ks.map λk=>r.getD k 0).map ae:=by rw [lP];rfl
  rw [e];refine ⟨rfl,bN _,_,rfl,?_⟩;refine (?_:if (if true=true then !inD (ae (r.getD j 0)) ((ks.map λk=>r.getD k 0).map ae) else _)=true then _ else _);rw [if_pos rfl,jr];refine bB (λc=>?_) (λc=>⟨_,rfl,⟨by decide,by decide⟩,trivial,hA _ ⟨_,ks,some (ae j),rfl,by omega,lt,nk⟩⟩)
  have c:r.getD j 0∉ks.map λk=>r.getD k 0:=of_decide_eq_false (by simpa only [Bool.not_eq_true'] using c)
  refine ⟨_,rfl,_,rfl,trivial,bI (by rw [aV];omega),?_⟩
  refine ⟨_,rfl,⟨by decide,by decide⟩,trivial,hA _ ⟨y / 2,ks++ [j],some (ae j),?_,?_,λk hk=>?_,?_⟩⟩
  ·unfold aq;rw [cE];rfl
  ·rw [cu];simp only [lM];omega
  ·rcases b9.mp hk with h|h
   ·exact lt k h
   ·rw [eI] at h;rw [h];exact hj
  ·rw [cE,jD]
   refine ⟨nk,by simp,λa ha b hb z=>c ?_⟩
   have hb:b=r.getD j 0:=by simpa using hb
   rw [←hb,←z];exact ha
 ·rintro _ ⟨y,ks,o4,rfl,hl,lt,nk⟩
  refine ⟨_,rfl,by show 0≤sizeLine;decide,?_⟩
  refine (?_:rg (aq ks) (aq []) _);refine kL ⟨_,rfl,bB (λe=>?_) (λe=>?_)⟩
  ·have m:=fk n ((r.map ae).length:Int) (by omega)
   refine ⟨_,rfl,_,rfl,(by show (0:Int)<((r.map ae).length:Int);omega),by show 1≤sizeLine;decide,?_⟩
   have:=q [(n%((r.map ae).length:Int)).toNat] ⟨Nat.succ_pos _,λk hk=>by rw [eI] at hk;omega,by simp⟩
   have e2:aq [(n%((r.map ae).length:Int)).toNat]= .lst [.int (n%((r.map ae).length:Int))]:=by
    show D.lst [.int (((n%((r.map ae).length:Int)).toNat:Nat):Int)]=_;rw [show (((n%((r.map ae).length:Int)).toNat:Nat):Int)=n%((r.map ae).length:Int) by omega]
   rw [e2] at this;exact this
  ·have e:ks≠ []:=of_decide_eq_false e
   exact ⟨_,rfl,q ks ⟨List.length_pos_iff.mpr e,lt,nk⟩⟩
variable {P:Program} {w:World} {mg:Str→Option Value} {base:Heap} {Z:DC} (T:Txt Z mg)
theorem uQ{w v:W}(g:Good w){ps:List Nat}(ne:0<ps.length)(lt:∀p∈ps,p<w.length)(len:v.length=w.length+1)(ln:(row v w.length).Nodup)(last:∀x,x∈row v w.length↔x∈ps)(nod:∀p,p<w.length→(row v p).Nodup)(mem:∀p,p<w.length→∀q,q∈row v p↔q∈row w p∨(q=w.length∧p∈ps)):Good v:=by
 have nn:w.length∉ps:=λh=>kc _ (lt _ h)
 have cs:∀{p q},q∈row v p→(p<w.length∧(q∈row w p∨(q=w.length∧p∈ps)))∨(p=w.length∧q∈ps):=λ {p q} h=>by
  have:=bR h
  by_cases z:p=w.length
  ·subst z;exact .inr ⟨rfl,(last q).mp h⟩
  ·have:p<w.length:=by omega
   exact .inl ⟨this,(mem p this q).mp h⟩
 have up:∀{a b},Reach w a b→Reach v a b:=λ {a b} h=>by
  induction h with
  |refl=>exact .refl _
  |step _ hr ih=>exact .step ih ((mem _ (bR hr) _).mpr (.inl hr))
 refine ⟨λp q h=>?_,λp h=>?_,λp=>?_,λp q h=>?_,λp hp=>?_⟩
 ·rcases cs h with ⟨_,h| ⟨h,_⟩⟩ | ⟨_,h⟩
  ·have:=g.rng p q h;omega
  ·omega
  ·have:=lt q h;omega
 ·rcases cs h with ⟨_,h| ⟨_,h⟩⟩ | ⟨e,h⟩
  ·exact g.irr p h
  ·have:=lt p h;omega
  ·subst e;exact nn h
 ·by_cases z:p<w.length
  ·exact nod p z
  ·by_cases e:p=w.length
   ·subst e;exact ln
   ·have:row v p= []:=List.eq_nil_iff_forall_not_mem.mpr λq h=>by have:=bR h;omega
    rw [this];exact fH
 ·rcases cs h with ⟨hp,h2| ⟨e,h2⟩⟩ | ⟨e,h2⟩
  ·have s:=g.sym p q h2
   exact (mem q (bR s) p).mpr (.inl s)
  ·subst e;exact (last p).mpr h2
  ·subst e;exact (mem q (lt q h2) _).mpr (.inr ⟨rfl,h2⟩)
 ·by_cases z:p<w.length
  ·exact up (g.con p z)
  ·obtain rfl:p=w.length:=by omega
   obtain ⟨x,hx⟩:=List.exists_mem_of_length_pos ne;exact .step (up (g.con x (lt x hx))) ((mem x (lt x hx) _).mpr (.inr ⟨rfl,hx⟩))
theorem zq{c:bY}{md:List Nat}{m:Bool}{i:Nat}{te:aK}{E:bT}{ρ:DN}{x0:Int}(B:Prop)(Ok:Int→Prop)(h0:ρ[i]? =some (some (.int x0)))(E9:¬B→Ok x0)(hc:∀Q:Bool→Prop,(B→Q true)→(¬B→Q false)→c ρ Q)(ht:B→∀Q:D→Prop,(∀x:Int,Ok x→Q (.int x))→te (mG md m ρ) Q)
  (hk:∀x:Int,Ok x→E.nx (ρ.set i (some (.int x)))):ox c (sT md m i te) kg E ρ:=by
 refine hc _ (λb=>b6 (ht b _ λx hx=>⟨?_,hk x hx⟩)) (λb=>cD ?_)
 ·cases m
  ·trivial
  ·rfl
 ·have:=hk x0 (E9 b)
  obtain ⟨hi,e⟩:=dU.mp h0;rw [←e,List.set_getElem_self] at this;exact this
theorem xI{r:List Nat}{k:Nat}(h:k<r.length):cV (r.map ae) ((k:Int)-1)=some (ae (r.getD ((k+(r.length-1))%r.length) 0)):=by
 cases k with
 |zero=>
  rw [nv,nu (by omega)]
  refine vW (j:=r.length-1) (n:=r.length) (aV _) ?_ ?_
  ·unfold dZ
   rw [if_neg (by omega),if_pos (by omega)]
   exact congrArg some (by omega)
  ·rw [cT,cM,eG (by omega:r.length-1<r.length)];rfl
 |succ k=>
  rw [show k+1+(r.length-1)=k+r.length by omega,Nat.add_mod_right,nu (by omega),show ((k+1:Nat):Int)-1=(k:Int) by omega]
  exact dQ (by omega)
def Ao:cj:=λds P=>∃(w:W)(r ks:List Nat),ds= [az w,aq r,aq ks]∧Good w∧1≤w.length∧w.length≤13∧jH w r∧Cn r ks∧∀v,Good v→v.length=w.length+1→P (az v)
theorem pA:FnOk P w Z.K mg base bS 1 T.d__law_grown.f T.d__law_grown.fd ["_law_turns","_law_land","_law_places_here"] (aU Z Ao):=by
 have nd:=jx.nd;refine aX T.d__law_grown.F jx [0,0,0,1,1,0,0,0] (by decide) (λds R h=>by obtain ⟨_,_,_,rfl,_⟩:=h;rfl) (λbc A outer s H E ds R hr h=>?_)
 have hu:=hr.units
 refine ⟨_,(ag (qp 3 (NC:= ["_law_turn"]) (src:= [none]) rfl nd (lS (au eS)) trivial (bD (aa 0)) (λ_ _ _=>(b5 0 (show (["_law_turn"]:List Str).Nodup from by decide+kernel))) (λ_ _ _=>eW) (λ_ _ _=>(ki om rfl T.B.list h8 (ab (aa 0) ah))))
   (ag (dO 4 nd (fJ ah))
   (ag (dh rfl PassesOwn.never (AW rfl T.B.reversed (ab (aa 2) ah)) (aR 5 nd) (ag (yK 6 3 nd (aS (aa 1) (aa 5)))
   (ag (aC false 7 nd av)
   (ag (bA (aP (rP hu) (aa 6) (bJ ah) (bf _)) (ao (aC false 7 nd (ax bq (lU (aa 6) (aS (aa 1) (ax rR (aa 5) av))) av))) aQ)
   (ag (uI 3 (aS (aa 1) (aa 5)) (AR (ax bq (eB (aa 6) fZ (f7 (aa 7))) (bJ (ab (aF ba rfl T.B.len aZ (ab (aa 0) ah)) ah))) (eB (aa 6) (f7 (aa 7)) fZ)))
   (ao (fK false 4 (aS (aa 1) (aa 5)))))))))
   (ao (aO (ax bq (aa 3) (bJ (ab (aa 4) ah)))))))),?_⟩
 obtain ⟨w',r,ks,rfl,g,h1,HC,L,K,q⟩:=h;have lw:(w'.map aq).length=w'.length:=aV _;refine ⟨_,rfl,?_⟩;refine gN (ρ:= [none]) aq aq w' _ (λx hx Y hY=>⟨_,rfl,hY⟩) rfl (small (by omega)) λaE=>?_
 refine ⟨by show 0≤sizeLine;decide,?_⟩
 refine ⟨_,rfl,?_⟩;refine (?_:iT _ _ _ (ks.map ae).reverse _);rw [←List.map_reverse];have nr:(ks.reverse.map λk=>r.getD k 0).Nodup:=by rw [List.map_reverse];exact (List.reverse_perm _).nodup_iff.mpr K.nd
 refine bQ (λj ρ=>∃(v:W)(o5 o6 o7:Option D),ρ= [some (az w'),some (aq r),some (aq ks),some (az v),some (aq ((ks.reverse.take j).map λk=>r.getD k 0)),o5,o6,o7]∧v.length=w'.length∧(∀p,p<w'.length→p∉((ks.reverse.take j).map λk=>r.getD k 0)→row v p=row w' p)∧(∀p,p<w'.length→(row v p).Nodup)∧∀p,p<w'.length→∀x,x∈row v p↔x∈row w' p∨(x=w'.length∧p∈(ks.reverse.take j).map λk=>r.getD k 0))
  ⟨w',_,_,_,rfl,rfl,λp _ _=>rfl,λp _=>g.nod p,λp _ x=>⟨.inl,λh=>h.elim id λh=>nomatch h.2⟩⟩ ?_ ?_
 ·rintro j _ _ hd ⟨v,o5,o6,o7,rfl,vl,same,vn,vm⟩ A hA
  obtain ⟨k,hk,rfl⟩:=cn hd;have kk:k∈ks:=List.mem_reverse.mp (ee hk);have kr:=K.lt k kk;have al:=L.lt k kr;have tk:ks.reverse.take (j+1)=ks.reverse.take j++ [k]:=by rw [List.take_succ,hk];rfl
  generalize EI:((ks.reverse.take j).map λk=>r.getD k 0)=dn at same vm ⊢;have td:((ks.reverse.take (j+1)).map λk=>r.getD k 0)=dn++ [r.getD k 0]:=by rw [tk,cE,EI];rfl
  have na:r.getD k 0∉dn:=λz=>by
   have:=nr
   rw [←wO (j+1) ks.reverse,cE,td] at this
   have:=(jD.mp (jD.mp this).1).2.2 _ z _ (eI.mpr rfl)
   exact this rfl
  have dl:dn.length≤196:=by
   have h1:=aH (m:=List.range w'.length) (l:=dn) (by rw [←EI,qV];exact nr.sublist (List.take_sublist ..)) λx hx=>by
    rw [←EI] at hx;obtain ⟨y,hy,rfl⟩:=dX.mp hx;exact cq.mpr (L.lt y (K.lt y (List.mem_reverse.mp (List.mem_of_mem_take hy))))
   rw [j9] at h1;omega
  generalize ea:r.getD k 0=a at*;have rl:=e7 g a;have ra:row v a=row w' a:=same a al na;have Ds:cV (r.map ae) (k:Int)=some (ae a):=by rw [dQ kr,ea]
  have lr:((row w' a).map ae).length=(row w' a).length:=aV _;refine ⟨_,rfl,_,rfl,_,rfl,_,Ds,_,_,rfl,gi (by rw [vl];exact al),?_⟩
  refine ⟨trivial,?_⟩;rw [ra];dsimp only;refine sS ?_;refine (?_:ox _ (sT [0,0,0,1,1,0,0,0] false 7 _) kg _ [some (az w'),some (aq r),some (aq ks),some (az v),some (aq dn),some (ae k),some (aq (row w' a)),some (.int 0)]);refine zq (row w' a≠ []) (λz=>0≤z∧z≤(row w' a).length) (x0:=0) (by rfl) (λ_=>⟨by omega,by omega⟩) (λQ h1 h2=>?_) (λne Q hQ=>?_) λz hz=>?_
  ·refine ⟨_,rfl,by show 0≤sizeLine;decide,?_⟩
   refine (?_:w4 (aq (row w' a)) (aq []) _);refine sR ⟨_,rfl,?_⟩
   by_cases e:row w' a= []
   ·rw [decide_eq_true e];exact h2 (λz=>z e)
   ·rw [decide_eq_false e];exact h1 e
  ·obtain ⟨x,hx⟩:=List.exists_mem_of_ne_nil _ ne
   have n2:2≤w'.length:=by
    have:=g.rng a x hx
    have:x≠a:=λe=>g.irr a (by rw [e] at hx;exact hx)
    omega
   have hb:=L.tie n2 k kr;rw [ea] at hb;have fx:=iM hb;have il:=qQ.mpr hb;exact ⟨_,rfl,_,rfl,_,rfl,_,rfl,_,xI kr,rfl,bN _,_,_,fx.1,fx.2.1,fx.2.2,hQ _ ⟨by omega,by omega⟩⟩
  obtain ⟨i,rfl⟩:∃i:Nat,z=(i:Int):=⟨z.toNat,by omega⟩
  have il:i≤(row w' a).length:=by omega
  have ca:cutD ((row w' a).map ae) none (some (i:Int))=((row w' a).take i).map ae:=by rw [iL _ _ (by rw [lr];omega),qV]
  have cb:cutD ((row w' a).map ae) (some (i:Int)) none=((row w' a).drop i).map ae:=by rw [kf _ _ (by rw [lr];omega),List.map_drop]
  have s1:(cutD ((row w' a).map ae) none (some (i:Int))).length+1≤sizeLine:=by rw [ca,aV,jE];exact small (by omega)
  have ei:(cutD ((row w' a).map ae) none (some (i:Int))++ [ae (w'.map aq).length])++cutD ((row w' a).map ae) (some (i:Int)) none=(ins (row w' a) i w'.length).map ae:=by
   rw [ca,cb,lw];unfold ins;rw [cE,lN];rfl
  have s2:(cutD ((row w' a).map ae) none (some (i:Int))++ [ae (w'.map aq).length]).length+(cutD ((row w' a).map ae) (some (i:Int)) none).length≤sizeLine:=by
   rw [←cu,ei,aV,oO];exact small (by omega)
  refine ⟨_,rfl,_,rfl,_,rfl,by show 1≤sizeLine;decide,s1,_,rfl,_,rfl,_,rfl,_,rfl,s2,?_⟩
  have fl:((cutD ((row w' a).map ae) none (some (i:Int))++ [ae (w'.map aq).length])++cutD ((row w' a).map ae) (some (i:Int)) none).all bU=true:=by rw [ei];exact bN _
  have ix:dZ (v.map aq).length (a:Int)=some a:=by
   unfold dZ;rw [if_pos (by omega),if_pos (by rw [aV,vl];omega)]
   exact congrArg some (by omega)
  refine ⟨fl,_,rfl,_,rfl,_,rfl,_,Ds,_,a,rfl,ix,?_⟩;refine ⟨_,rfl,_,rfl,_,rfl,_,Ds,trivial,bI (by rw [aV];omega),?_⟩
  have PQ:w'.length∉row w' a:=λz=>kc _ (g.rng _ _ z);have rs:∀p,row (v.set a (ins (row w' a) i w'.length)) p=if a=p then ins (row w' a) i w'.length else row v p:=λp=>Wb.t9 (by rw [vl];exact al)
  refine hA _ ⟨v.set a (ins (row w' a) i w'.length),some (ae k),some (aq (row w' a)),some (ae i),?_,by rw [fG,vl],λp hp np=>?_,λp hp=>?_,λp hp x=>?_⟩
  ·have e3:az (v.set a (ins (row w' a) i w'.length))= .lst ((v.map aq).set a (.lst ((cutD ((row w' a).map ae) none (some (i:Int))++ [ae (w'.map aq).length])++cutD ((row w' a).map ae) (some (i:Int)) none))):=by
    rw [ei];exact congrArg D.lst (qP ..).symm
   have e4:aq (dn++ [a])= .lst (dn.map ae++ [ae a]):=by unfold aq;rw [cE];rfl
   rw [td,e3,e4];rfl
  ·rw [td] at np
   rw [b9] at np;rw [rs,if_neg (λe=>np (.inr (eI.mpr e.symm)))];exact same p hp λz=>np (.inl z)
  ·rw [rs]
   split
   ·exact pd (g.nod a) PQ
   ·exact vn p hp
  ·rw [rs,td,b9,eI]
   split
   ·next e=>
    subst e;rw [tQ];exact ⟨λh=>h.elim (λh=> .inr ⟨h, .inr rfl⟩) .inl,λh=>h.elim .inr λh=> .inl h.1⟩
   ·next e=>
    rw [vm p hp x];exact or_congr Iff.rfl (and_congr Iff.rfl ⟨.inl,λh=>h.elim id λh=>absurd h.symm e⟩)
 ·rintro _ ⟨v,o5,o6,o7,rfl,vl,same,vn,vm⟩
  rw [aV,List.take_length] at same vm ⊢;have Qr:0<(ks.reverse.map λk=>r.getD k 0).length:=by rw [aV,List.length_reverse];exact K.ne
  have Qh:∀p∈ks.reverse.map (λk=>r.getD k 0),p<w'.length:=λp hp=>by
   obtain ⟨k,hk,rfl⟩:=dX.mp hp;exact L.lt k (K.lt k (List.mem_reverse.mp hk))
  have rs:∀p,row (v++ [ks.reverse.map λk=>r.getD k 0]) p=if p=w'.length then ks.reverse.map (λk=>r.getD k 0) else row v p:=λp=>by
   unfold row;rw [cM,cM]
   by_cases e:p=w'.length
   ·rw [if_pos e,i8 (by omega),show p-v.length=0 by omega];rfl
   ·rw [if_neg e]
    by_cases z:p<v.length
    ·rw [gS z]
    ·rw [gT (by rw [cu];simp only [lM];omega),gT (by omega)]
  have G2:Good (v++ [ks.reverse.map λk=>r.getD k 0]):=by
   refine uQ g Qr Qh (by rw [cu,vl];rfl) ?_ (λx=>?_) (λp hp=>?_) λp hp x=>?_
   ·rw [rs,if_pos rfl];exact nr
   ·rw [rs,if_pos rfl]
   ·rw [rs,if_neg (by omega)];exact vn p hp
   ·rw [rs,if_neg (by omega)];exact vm p hp x
  have:=q _ G2 (by rw [cu,vl];rfl)
  have ew:az (v++ [ks.reverse.map λk=>r.getD k 0])= .lst (v.map aq++ [aq (ks.reverse.map λk=>r.getD k 0)]):=by unfold az;rw [cE];rfl
  rw [ew] at this;exact ⟨_,rfl,_,rfl,by show 1≤sizeLine;decide,by rw [aV];exact small (by simp only [lM];omega),this⟩
variable {P:Program} {w:World} {mg:Str→Option Value} {base:Heap} {Z:DC} (T:Txt Z mg)
def B5:cj:=λds P=>∃(xs:List Int),ds= [.lst (bw xs)]∧xs.length≤13∧∀w,Good w→w.length=xs.length+1→P (az w)
theorem xk:Good [[]]:=⟨λp q h=>by have:=bR h;cases p<;>simp [row] at h,λp h=>by have:=bR h;cases p<;>simp [row] at h,λp=>by cases p<;>simp [row],λp q h=>by have:=bR h;cases p<;>simp [row] at h,λp hp=>by
 obtain rfl:p=0:=by simpa using hp
 exact .refl _⟩
theorem rS:FnOk P w Z.K mg base bS 2 T.d__law_web.f T.d__law_web.fd ["_law_draws_here"] (aU Z B5):=by
 have nd:=lD.nd;refine aX T.d__law_web.F lD [0,0,0,0,0] (by decide) (λds R h=>by obtain ⟨_,rfl,_⟩:=h;rfl) (λbc A outer s H E ds R hr h=>?_)
 have hu:=hr.units
 refine ⟨_,(ag (aC false 1 nd (bJ (ab (bJ ah) ah)))
   (ag (dh rfl PassesOwn.never (bD (aa 0)) (aR 2 nd) (ag (aC false 3 nd (aB T.d__law_lands (pB T) hr (ab (aa 1) ah)))
   (ag (aC false 4 nd (aS (aa 3) (ax bp (aa 2) (aF ba rfl T.B.len aZ (ab (aa 3) ah)))))
   (ao (aC false 1 nd (aB T.d__law_grown (pA T) hr (ab (aa 1) (ab (aa 4) (ab (aB T.d__law_places (nH T) hr (ab (aa 4) (ab (ax eN (aa 2) (aF ba rfl T.B.len aZ (ab (aa 3) ah))) ah))) ah)))))))))
   (ao (aO (aa 1))))),?_⟩
 obtain ⟨xs,rfl,HC,q⟩:=h;refine ⟨by show 0≤sizeLine;decide,by show 1≤sizeLine;decide,trivial,?_⟩
 refine ⟨_,rfl,?_⟩;refine bQ (λj ρ=>∃(w:W)(o2 o3 o4:Option D),ρ= [some (.lst (bw xs)),some (az w),o2,o3,o4]∧Good w∧w.length=j+1) ⟨[[]],_,_,_,rfl,xk,rfl⟩ ?_ ?_
 ·rintro j _ _ hd ⟨v,o2,o3,o4,rfl,g,vl⟩ A hA
  obtain ⟨x,hx,rfl⟩:=cn hd;have jl:=(dU.mp hx).1;refine ⟨_,rfl,v,rfl,g,by omega,by omega,λrs r0 rl ok=>⟨trivial,?_⟩⟩
  have lr:(rs.map aq).length=rs.length:=aV _;have e0:(0:Int)<((rs.map aq).length:Int):=by rw [lr];omega
  have m:=fk x ((rs.map aq).length:Int) e0;obtain ⟨i,hi⟩:∃i:Nat,x%((rs.map aq).length:Int)=(i:Int):=⟨(x%((rs.map aq).length:Int)).toNat,by omega⟩
  have il:i<rs.length:=by omega
  have EE:cV (rs.map aq) (x%((rs.map aq).length:Int))=some (aq (rs.getD i [])):=by
   rw [hi];exact dB (by rw [cT,cM,eG il];rfl)
  have L:jH v (rs.getD i []):=ok _ (by rw [cM,eG il];exact pY il)
  refine ⟨_,rfl,_,rfl,_,rfl,e0,_,EE,trivial,?_⟩;refine ⟨_,rfl,_,rfl,_,rfl,_,rfl,_,rfl,⟨e0,by show ((rs.map aq).length:Int)<1073741824;rw [lr];omega⟩,?_⟩
  refine ⟨rs.getD i [],_,rfl,L.ne,L.sz,λks K=>⟨v,rs.getD i [],ks,rfl,g,by omega,by omega,L,K,λv2 g2 l2=>⟨trivial,?_⟩⟩⟩
  exact hA _ ⟨v2,_,_,_,rfl,g2,by omega⟩
 ·rintro _ ⟨v,o2,o3,o4,rfl,g,vl⟩
  exact ⟨_,rfl,q v g (by rw [vl];unfold bw;rw [aV])⟩
variable {P:Program} {w:World} {mg:Str→Option Value} {base:Heap} {Z:DC} (T:Txt Z mg)
theorem oM{w v:W}(g:Good w)(len:v.length=w.length)(nod:∀p,p<w.length→(row v p).Nodup)(mem:∀p,p<w.length→∀q,q∈row v p↔q∈row w p):Good v:=by
 have all:∀{p q},q∈row v p↔q∈row w p:=λ {p q}=>by
  by_cases h:p<w.length
  ·exact mem p h q
  ·exact ⟨λz=>absurd (bR z) (by omega),λz=>absurd (bR z) h⟩
 refine ⟨λp q h=>by rw [len];exact g.rng p q (all.mp h),λp h=>g.irr p (all.mp h),λp=>?_,λp q h=>all.mpr (g.sym p q (all.mp h)),λp hp=>?_⟩
 ·by_cases z:p<w.length
  ·exact nod p z
  ·have:row v p= []:=List.eq_nil_iff_forall_not_mem.mpr λq h=>by have:=bR h;omega
   rw [this];exact fH
 ·have up:∀{a b},Reach w a b→Reach v a b:=λ {a b} h=>by
   induction h with
   |refl=>exact .refl _
   |step _ hr ih=>exact .step ih (all.mpr hr)
  exact up (g.con p (by omega))
def named(w:W)(ns:List Nat):W:=(List.range w.length).map λp=>(row w (ns.getD p 0)).map λq=>ns.idxOf q
theorem iw{ns:List Nat}{x:Nat}(h:x∈ns):ns.getD (ns.idxOf x) 0=x∧ns.idxOf x<ns.length:=by
 have hl:=qQ.mpr h;refine ⟨?_,hl⟩;rw [cM,eG hl];exact ux hl
theorem yX{ns:List Nat}(nd:ns.Nodup){i:Nat}(h:i<ns.length):ns.idxOf (ns.getD i 0)=i:=by
 rw [cM,eG h];exact nd.idxOf_getElem i h
theorem kE{w:W}{ns:List Nat}{p:Nat}(h:p<w.length):row (named w ns) p=(row w (ns.getD p 0)).map λq=>ns.idxOf q:=by
 unfold named row;rw [cM,cT,uw h];rfl
theorem tD{w:W}{ns:List Nat}(g:Good w)(N:uD w.length ns):Good (named w ns):=by
 have lt:∀p,p<w.length→ns.idxOf p<w.length:=λp hp=>by have:=(iw (dA N hp)).2;rw [N.1] at this;exact this
 refine xm (ord:=λp=>ns.idxOf p) g (by unfold named;simp) lt (λp q hp hq e=>?_) (λy hy=>?_) (λp hp=>?_)
 ·have:=(iw (dA N hp)).1
  have:=(iw (dA N hq)).1
  have e:ns.idxOf p=ns.idxOf q:=e;exact (iw (dA N hp)).1.symm.trans (by rw [e];exact (iw (dA N hq)).1)
 ·have Bc:y<ns.length:=by rw [N.1];exact hy
  exact ⟨ns.getD y 0,N.2.2 _ (getD_mem Bc),yX N.2.1 Bc⟩
 ·rw [kE (lt p hp),(iw (dA N hp)).1]
def Ap:cj:=λds P=>∃(w:W)(xs:List Int),ds= [az w, .lst (bw xs)]∧Good w∧1≤w.length∧w.length≤14∧xs.length=w.length∧∀v,Good v→v.length=w.length→P (az v)
theorem pC:FnOk P w Z.K mg base bS 1 T.d__law_named.f T.d__law_named.fd ["_law_turns","_law_draws_here"] (aU Z Ap):=by
 have nd:=jz.nd;refine aX T.d__law_named.F jz [0,0,0,0,0,1,0,0] (by decide) (λds R h=>by obtain ⟨_,_,rfl,_⟩:=h;rfl) (λbc A outer s H E ds R hr h=>?_)
 have hu:=hr.units
 refine ⟨_,(ag (aC false 2 nd (bJ ah))
   (ag (f9 rfl PassesOwn.never (dr rfl T.B.range (ab (aF ba rfl T.B.len aZ (ab (aa 0) ah)) ah)) (aR 3 nd) (ag (aC false 4 nd (ax bp (aS (aa 1) (aa 3)) (ax bq (aa 3) av)))
   (ao (aC false 2 nd (ax bq (ax bq (eB (aa 2) fZ (f7 (aa 4))) (bJ (ab (aa 3) ah))) (eB (aa 2) (f7 (aa 4)) fZ))))))
   (ag (dO 5 nd (fJ ah))
   (ag (f9 rfl PassesOwn.never (dr rfl T.B.range (ab (aF ba rfl T.B.len aZ (ab (aa 0) ah)) ah)) (aR 6 nd) (ag (qq 7 (NC:= ["_law_q","_law_names"]) (src:= [none,some 2]) rfl nd (lS (au eU)) ⟨rfl,rfl,trivial⟩ (bD (aS (aa 0) (aS (aa 2) (aa 6)))) (λ_ _ _=>(b5 0 (show (["_law_q","_law_names"]:List Str).Nodup from by decide+kernel))) (λ_ _ _=>eW) (λ_ _ _=>(lU (aa 1) (aa 0))))
   (ag (aC false 4 nd (ax bp (ax eN (aS (aa 1) (aa 6)) av) (aF (yo rfl) rfl T.B.max AM (ab av (ab (aF ba rfl T.B.len aZ (ab (aa 7) ah)) ah)))))
   (ao (fK false 5 (ax bq (eB (aa 7) (f7 (aa 4)) fZ) (eB (aa 7) fZ (f7 (aa 4)))))))))
   (ao (aO (aa 5))))))),?_⟩
 obtain ⟨w',xs,rfl,g,h1,cz,xl,q⟩:=h;have lw:(w'.map aq).length=w'.length:=aV _;refine ⟨by show 0≤sizeLine;decide,trivial,?_⟩
 refine ⟨_,rfl,⟨by omega,by show ((w'.map aq).length:Int)<2^62;omega⟩,?_⟩
 rw [show (((w'.map aq).length:Int)).toNat=w'.length by omega]
 refine eD (λj ρ=>∃(ns:List Nat)(o3 o4:Option D),ρ= [some (az w'),some (.lst (bw xs)),some (aq ns),o3,o4,none,none,none]∧uD j ns) ⟨[],_,_,rfl,rfl,fH,λx h=>by cases h⟩ ?_ ?_
 ·rintro j _ hj ⟨ns,o3,o4,rfl,hl,nd,lt⟩ A hA
  have mq:=fk (xs.getD j 0) ((j:Int)+1) (by omega)
  have lr:(ns.map ae).length=j:=by rw [aV,hl]
  obtain ⟨i,hi⟩:∃i:Nat,xs.getD j 0%((j:Int)+1)=(i:Int):=⟨(xs.getD j 0%((j:Int)+1)).toNat,by omega⟩
  have il:i≤j:=by omega
  have ca:cutD (ns.map ae) none (some (xs.getD j 0%((j:Int)+1)))=(ns.take i).map ae:=by rw [hi,iL _ _ (by rw [lr];omega),qV]
  have cb:cutD (ns.map ae) (some (xs.getD j 0%((j:Int)+1))) none=(ns.drop i).map ae:=by rw [hi,kf _ _ (by rw [lr];omega),List.map_drop]
  have ei:(cutD (ns.map ae) none (some (xs.getD j 0%((j:Int)+1)))++ [ae j])++cutD (ns.map ae) (some (xs.getD j 0%((j:Int)+1))) none=(ins ns i j).map ae:=by
   rw [ca,cb];unfold ins;rw [cE,lN];rfl
  have s1:(cutD (ns.map ae) none (some (xs.getD j 0%((j:Int)+1)))).length+1≤sizeLine:=by rw [ca,aV,jE];exact small (by omega)
  have s2:(cutD (ns.map ae) none (some (xs.getD j 0%((j:Int)+1)))++ [ae j]).length+(cutD (ns.map ae) (some (xs.getD j 0%((j:Int)+1))) none).length≤sizeLine:=by
   rw [←cu,ei,aV,oO];exact small (by omega)
  refine ⟨_,rfl,_,rfl,_,js (by omega),_,rfl,(by show (0:Int)<(j:Int)+1;omega),trivial,?_⟩
  refine ⟨_,rfl,_,rfl,_,rfl,by show 1≤sizeLine;decide,s1,_,rfl,_,rfl,s2,trivial,?_⟩
  refine hA _ ⟨ins ns i j,some (ae j),some (.int (xs.getD j 0%((j:Int)+1))),?_,by rw [oO,hl],pd nd (λz=>by have:=lt j z;omega),λx hx=>?_⟩
  ·have e:aq (ins ns i j)= .lst ((cutD (ns.map ae) none (some (xs.getD j 0%((j:Int)+1)))++ [ae j])++cutD (ns.map ae) (some (xs.getD j 0%((j:Int)+1))) none):=by rw [ei];rfl
   rw [e];rfl
  ·rcases tQ.mp hx with rfl|hx
   ·omega
   ·have:=lt x hx;omega
 ·rintro _ ⟨ns,o3,o4,rfl,N⟩
  have all:∀x,x<w'.length→x∈ns:=λx hx=>dA N hx;refine ⟨by show 0≤sizeLine;decide,?_⟩
  refine ⟨_,rfl,⟨by omega,by show ((w'.map aq).length:Int)<2^62;omega⟩,?_⟩
  rw [show (((w'.map aq).length:Int)).toNat=w'.length by omega]
  refine eD (λj ρ=>∃(v:W)(o4 o6 o7:Option D),ρ= [some (az w'),some (.lst (bw xs)),some (aq ns),o3,o4,some (az v),o6,o7]∧v.length=j∧∀p,p<j→(row v p).Perm (row (named w' ns) p)) ⟨[],_,_,_,rfl,rfl,λp h=>by omega⟩ ?_ ?_
  ·rintro p _ hp ⟨v,o4,o6,o7,rfl,vl,vp⟩ A hA
   have np:ns.getD p 0<w'.length:=N.2.2 _ (by rw [cM,eG (by rw [N.1];exact hp)];exact pY _)
   have rl:=e7 g (ns.getD p 0);refine ⟨_,rfl,_,rfl,_,rfl,_,dQ (by rw [N.1];exact hp),_,gi np,?_⟩
   refine gN (ρ:= [none,some (aq ns)]) ae (λx=>ae (ns.idxOf x)) (row w' (ns.getD p 0)) _ (λx hx Y hY=>?_) rfl (small (by omega)) λaE=>?_
   ·have fx:=iM (all x (g.rng _ _ hx))
    exact ⟨_,rfl,_,rfl,_,rfl,rfl,bN _,_,_,fx.1,fx.2.1,fx.2.2,hY⟩
   refine ⟨trivial,?_⟩;have eT:(.lst ((row w' (ns.getD p 0)).map λx=>ae (ns.idxOf x)):D)=aq (row (named w' ns) p):=by rw [kE hp];unfold aq;rw [lP];rfl
   have tl:(row (named w' ns) p).length≤14:=by rw [kE hp,aV];omega
   rw [eT];generalize hT:row (named w' ns) p=t at tl ⊢;have lt:(t.map ae).length=t.length:=aV _;have pos:(0:Int)<(if ((t.map ae).length:Int)>1 then ((t.map ae).length:Int) else 1):=by split<;>omega
   have mq:=fk (xs.getD p 0 / 14) (if ((t.map ae).length:Int)>1 then ((t.map ae).length:Int) else 1) pos;refine ⟨_,rfl,_,rfl,_,js (by omega),⟨by decide,by decide⟩,_,rfl,_,_,rfl,pos,trivial,?_⟩
   obtain ⟨i,hi⟩:∃i:Nat,xs.getD p 0 / 14%(if ((t.map ae).length:Int)>1 then ((t.map ae).length:Int) else 1)=(i:Int):=⟨(xs.getD p 0 / 14%(if ((t.map ae).length:Int)>1 then ((t.map ae).length:Int) else 1)).toNat,by omega⟩
   have il:i≤t.length:=by
    rw [hi] at mq;have h2:=mq.2
    split at h2<;>omega
   have ca:cutD (t.map ae) none (some (i:Int))=(t.take i).map ae:=by rw [iL _ _ (by rw [lt];omega),qV]
   have cb:cutD (t.map ae) (some (i:Int)) none=(t.drop i).map ae:=by rw [kf _ _ (by rw [lt];omega),List.map_drop]
   have s2:(cutD (t.map ae) (some (i:Int)) none).length+(cutD (t.map ae) none (some (i:Int))).length≤sizeLine:=by
    rw [ca,cb,aV,aV,List.length_drop,jE];exact small (by omega)
   refine (?_:CJ _ _ _ _ _ [some (az w'),some (.lst (bw xs)),some (aq ns),o3,some (.int (xs.getD p 0 / 14%(if ((t.map ae).length:Int)>1 then ((t.map ae).length:Int) else 1))),some (az v),some (ae p),some (aq t)]);rw [hi];refine ⟨_,rfl,_,rfl,_,rfl,_,rfl,_,rfl,s2,trivial,bI (by rw [aV];omega),?_⟩
   refine hA _ ⟨v++ [t.drop i++t.take i],some (.int (i:Int)),some (ae p),some (aq t),?_,by rw [cu,vl];rfl,λx hx=>?_⟩
   ·have e:az (v++ [t.drop i++t.take i])= .lst (v.map aq++ [.lst (cutD (t.map ae) (some (i:Int)) none++cutD (t.map ae) none (some (i:Int)))]):=by
     rw [ca,cb,←cE];unfold az;rw [cE];rfl
    rw [e];rfl
   ·by_cases z:x=p
    ·subst z
     have:row (v++ [t.drop i++t.take i]) x=t.drop i++t.take i:=by
      unfold row;rw [cM,i8 (by omega),show x-v.length=0 by omega];rfl
     rw [this,hT]
     have:=List.perm_append_comm (l₁:=t.drop i) (l₂:=t.take i)
     rwa [wO] at this
    ·have:row (v++ [t.drop i++t.take i]) x=row v x:=by
      unfold row;rw [cM,cM,gS (by omega)]
     rw [this];exact vp x (by omega)
  ·rintro _ ⟨v,o4,o6,o7,rfl,vl,vp⟩
   have gn:=tD g N;have nl:(named w' ns).length=w'.length:=by unfold named;simp
   exact ⟨_,rfl,q v (oM gn (by rw [vl,nl]) (λp hp=>(vp p (by omega)).nodup_iff.mpr (gn.nod p)) λp hp x=>(vp p (by omega)).mem_iff) vl⟩
variable {P:Program} {w:World} {mg:Str→Option Value} {base:Heap} {Z:DC} (T:Txt Z mg)
def cx(low:Int)(m:Nat):List Int:=(List.range m).map λ(k:Nat)=>low+(k:Int)-1
def B4:cj:=λds P=>∃(c:Int),ds= [.int c]∧∀(low:Int)(m:Nat),2≤m→m≤4→P (.lst (bw (cx low m)))
theorem qe:FnOk P w Z.K mg base bS 1 T.d__law_dyes.f T.d__law_dyes.fd ["_law_cell"] (aU Z B4):=by
 have nd:=j6.nd;refine aX T.d__law_dyes.F j6 [0,0,0] (by decide) (λds R h=>by obtain ⟨_,rfl,_⟩:=h;rfl) (λbc A outer s H E ds R hr h=>?_)
 have hu:=hr.units
 refine ⟨_,(ag (aC false 1 nd (ax bq av (ax bp (aa 0) av)))
   (ag (aC false 2 nd (ax fN (ax bp (ax eN (aa 0) av) av) (ax bp (ax eN (aa 0) av) (ax rQ av av))))
   (ao (aO (oA (NC:= ["_law_k","_law_low"]) (src:= [none,some 2]) rfl (lS (au fQ)) ⟨rfl,rfl,trivial⟩ (oB rfl T.B.range (ab (aa 1) ah)) (λ_ _ _=>(b5 0 (show (["_law_k","_law_low"]:List Str).Nodup from by decide+kernel))) (λ_ _ _=>eW) (λ_ _ _=>(ax rR (ax bq (aa 1) (aa 0)) av))))))),?_⟩
 obtain ⟨c,rfl,q⟩:=h;have m3:=fk c 3 (by decide)
 have m4:=fk (c / 3) 3 (by decide)
 obtain ⟨m,hm⟩:∃m:Nat,2+c%3=(m:Int):=⟨(2+c%3).toNat,by omega⟩
 refine ⟨_,rfl,(by show (0:Int)<3;decide),trivial,?_⟩
 refine ⟨_,rfl,⟨by decide,by decide⟩,(by show (0:Int)<3;decide),_,rfl,⟨by decide,by decide⟩,⟨by decide,by decide⟩,(by show (0:Int)<10^59;decide), .inl ⟨by dsimp only;omega,by dsimp only;omega⟩,trivial,?_⟩
 refine ⟨_,rfl,⟨by show-(2^62)≤2+c%3;omega,by show 2+c%3<2^62;omega⟩,?_⟩
 rw [show (2+c%3).toNat=m by omega,pM]
 refine gN (ρ:= [none,some (.int _)]) (λ(x:Nat)=>ae x) (λ(k:Nat)=> .int (_+(k:Int)-1)) (List.range m) _ (λk hk Y hY=>⟨_,rfl,_,rfl,hY⟩) rfl (small (by rw [j9];omega)) λaE=>?_
 have:=q (c / 3%3*(c / 9%10^59)) m (by omega) (by omega)
 unfold bw cx at this;rw [lP] at this;exact this
def xU:cj:=λds P=>∃(l:List Nat),ds= [aq l,aq l]∧l.length≤100∧P (.bl true)
theorem iA:FnOk P w Z.K mg base bS 2 T.d__law_is_list.f T.d__law_is_list.fd ["_law_found","_law_due"] (aU Z xU):=by
 have nd:=iE.nd;refine aX T.d__law_is_list.F iE [0,0] (by decide) (λds R h=>by obtain ⟨_,rfl,_⟩:=h;rfl) (λbc A outer s H E ds R hr h=>?_)
 have hu:=hr.units;refine ⟨_,(ao (aO (jJ (kM "list" (aa 0) rfl T.B.isinstance rfl T.B.list h8) (jJ (rj (gZ hu) (aa 0) (aa 1) (bf _)) (nQ (rj (gZ hu) (oA (NC:= ["_law_p"]) (src:= [none]) rfl (lS (au dj)) trivial (bD (aa 0)) (λ_ _ _=>(b5 0 (show (["_law_p"]:List Str).Nodup from by decide+kernel))) (λ_ _ _=>(kQ (jL (gK (aB T.d__law_whole (pD T) hr (ab (aa 0) ah)))))) (λ_ _ _=>(aa 0))) (bJ ah) (bf _))))))),?_⟩
 obtain ⟨l,rfl,hl,q⟩:=h;refine ⟨_,rfl,rfl,true,rfl,b6 ⟨_,rfl,_,rfl,kL ⟨_,rfl,ID (decide_eq_true rfl) ?_⟩⟩⟩;refine ⟨_,rfl,?_⟩;refine jO (λρ=>∃o,ρ= [o]) ae (λ_=>false) ae l _ [] _ (λx hx aE hI Y Nn hY hN=>?_) ⟨none,rfl⟩ (by rw [qU,nv];exact small (by omega)) λaE hI=>?_
 ·obtain ⟨o,rfl⟩:=hI
  exact ⟨_,rfl,_,rfl,rfl,hN _ ⟨_,rfl⟩ rfl⟩
 have ef:l.filter (λ_=>false)= []:=by simp
 rw [ef];refine ⟨by show 0≤sizeLine;decide,?_⟩
 exact (kL (v:= []) (w:= []) q:rg (aq []) (aq []) _)
variable {P:Program} {w:World} {mg:Str→Option Value} {base:Heap} {Z:DC} (T:Txt Z mg)
theorem qE:∀(w2:W)(o:Option D)(acc:List D)(N:List D→Prop),acc.length+w2.length≤sizeLine→N (acc++w2.map aq)→zx (kO 0) (yR (yz 0)) (w2.map aq) [o] acc N
 | [],o,acc,N,_,h=>by
  show N acc;simpa using h
 |x::xs,o,acc,N,hz,h=>by
  rw [dW] at hz;refine ⟨_,rfl,(by omega:acc.length<sizeLine),?_⟩
  refine qE xs _ (acc++ [aq x]) N (by simp;omega) ?_
  rw [lN];exact h
def vM(r:List Nat)(i:Nat):List Nat:=(r.set i (r.getD (i+1) 0)).set (i+1) (r.getD i 0)
theorem xZ(r:List Nat)(i:Nat)(h:i+1<r.length):(vM r i).Perm r:=by
 unfold vM;have e1:r.getD i 0=r[i]:=by rw [cM,eG (by omega)];rfl
 have e2:r.getD (i+1) 0=r[i+1]:=by rw [cM,eG h];rfl
 have hr:r=r.take i++r[i]::r[i+1]::r.drop (i+2):=by
  conv=>lhs;rw [←wO i r]
  rw [AF (by omega:i<r.length),AF h]
 have lt:(r.take i).length=i:=by rw [jE];omega
 have hs:(r.set i (r.getD (i+1) 0)).set (i+1) (r.getD i 0)=r.take i++r[i+1]::r[i]::r.drop (i+2):=by
  rw [e1,e2];generalize r[i]=a at hr;generalize r[i+1]=b at hr;generalize r.take i=t at hr lt;generalize r.drop (i+2)=u at hr;subst hr;rw [List.set_append_right _ _ (by omega),List.set_append_right _ _ (by omega),lt,ny,show i+1-i=1 by omega];rfl
 rw [hs]
 conv=>rhs;rw [hr]
 exact List.Perm.append_left _ (.swap ..)
def vI:cj:=λds P=>∃(w:W)(n:Int),ds= [az w, .int n]∧Good w∧1≤w.length∧w.length≤14∧∀v,Good v→v.length=w.length→P (az v)
theorem mv:FnOk P w Z.K mg base bS 1 T.d__law_twisted.f T.d__law_twisted.fd ["_law_turns","_law_number"] (aU Z vI):=by
 have nd:=iG.nd;refine aX T.d__law_twisted.F iG [0,0,2,0,0] (by decide) (λds R h=>by obtain ⟨_,_,rfl,_⟩:=h;rfl) (λbc A outer s H E ds R hr h=>?_)
 have hu:=hr.units
 refine ⟨_,(ag (uH 2 (NC:= ["_law_turn"]) (src:= [none]) rfl nd (lS (au dm)) trivial (bD (aa 0)) (λ_ _ _=>(b5 0 (show (["_law_turn"]:List Str).Nodup from by decide+kernel))) (λ_ _ _=>(sW rfl rfl T.B.list h8 (aa 0))))
   (uJ 2 3 4 nd rfl (ax bp (aa 1) (aF ba rfl T.B.len aZ (ab (aa 0) ah))) (aP E7 (aF ba rfl T.B.len aZ (ab (aa 3) ah)) av (bf _)) (ax bp (ax eN (aa 1) av) (ax rR (aF ba rfl T.B.len aZ (ab (aa 3) ah)) av)) (eJ (ab (aS (aa 3) (ax bq (aa 4) av)) (ab (aS (aa 3) (aa 4)) ah))) (aa 4) (ax bq (aa 4) av)
   (ao (aO (aa 2))))),?_⟩
 obtain ⟨w',n,rfl,g,h1,cz,q⟩:=h;have lw:(w'.map aq).length=w'.length:=aV _;have mq:=fk n ((w'.map aq).length:Int) (by omega)
 obtain ⟨p,hp⟩:∃p:Nat,n%((w'.map aq).length:Int)=(p:Int):=⟨(n%((w'.map aq).length:Int)).toNat,by omega⟩
 have pl:p<w'.length:=by omega
 refine ⟨_,rfl,qE w' none [] _ (by rw [qU,nv];exact small (by omega)) ?_⟩
 rw [qT];refine (?_:vZ _ _ _ _ _ _ _ _ _ _ _ [some (az w'),some (.int n),some (az w'),none,none])
 have ix:dZ (w'.map aq).length (p:Int)=some p:=by
  unfold dZ;rw [if_pos (by omega),if_pos (by omega)]
  exact congrArg some (by omega)
 have rl:=e7 g p;have lr:((row w' p).map ae).length=(row w' p).length:=aV _;refine ⟨_,rfl,⟨by show 3<5;decide,by show 4<5;decide⟩,_,rfl,_,rfl,(by show (0:Int)<((w'.map aq).length:Int);omega),n%((w'.map aq).length:Int),p,_,rfl,by rw [hp];exact ix,lI pl,λl=>?_⟩
 refine ⟨_,rfl,_,rfl,bB (λhb=>?_) λ_=>?_⟩
 ·have l3:2<(row w' p).length:=by
   have:=of_decide_eq_true hb
   omega
  have m2:=fk (n / 14) (((row w' p).map ae).length-1:Int) (by omega)
  obtain ⟨i,hi⟩:∃i:Nat,n / 14%(((row w' p).map ae).length-1:Int)=(i:Int):=⟨(n / 14%(((row w' p).map ae).length-1:Int)).toNat,by omega⟩
  refine ⟨_,rfl,⟨by decide,by decide⟩,_,rfl,(by show (0:Int)<(((row w' p).map ae).length:Int)-1;omega),_,rfl,?_⟩
  have ai:cV ((row w' p).map ae) (n / 14%(((row w' p).map ae).length-1:Int))=some (ae ((row w' p).getD i 0)):=by rw [hi];exact dQ (by omega)
  have Lv:cV ((row w' p).map ae) (n / 14%(((row w' p).map ae).length-1:Int)+1)=some (ae ((row w' p).getD (i+1) 0)):=by rw [hi];exact dQ (p:=i+1) (by omega)
  have IF:∀k:Nat,k<(row w' p).length→dZ ((row w' p).map ae).length (k:Int)=some k:=λk hk=>by
   unfold dZ;rw [if_pos (by omega),if_pos (by omega)]
   exact congrArg some (by omega)
  have NM:dZ ((row w' p).map ae).length (n / 14%(((row w' p).map ae).length-1:Int))=some i:=by rw [hi];exact IF i (by omega)
  have NN:dZ ((row w' p).map ae).length (n / 14%(((row w' p).map ae).length-1:Int)+1)=some (i+1):=by rw [hi];exact IF (i+1) (by omega)
  refine ⟨_,rfl,_,rfl,_,Lv,_,rfl,_,rfl,_,ai,by show 2≤sizeLine;decide,_,_,rfl,?_⟩
  refine ⟨_,rfl,_,i,rfl,NM,_,rfl,_,i+1,rfl,NN,?_⟩;have hd:=xZ (row w' p) i (by omega)
  have rs:∀x,row (w'.set p (vM (row w' p) i)) x=if p=x then vM (row w' p) i else row w' x:=λx=>Wb.t9 pl
  have G2:Good (w'.set p (vM (row w' p) i)):=by
   refine oM g (fG ..) (λx _=>?_) λx _ y=>?_
   ·rw [rs]
    split
    ·exact hd.nodup_iff.mpr (g.nod p)
    ·exact g.nod x
   ·rw [rs]
    split
    ·next e=>subst e;exact hd.mem_iff
    ·exact Iff.rfl
  have e:az (w'.set p (vM (row w' p) i))= .lst ((w'.map aq).set p (.lst ((((row w' p).map ae).set i (ae ((row w' p).getD (i+1) 0))).set (i+1) (ae ((row w' p).getD i 0))))):=by
   unfold vM;rw [←qX,←qX];exact congrArg D.lst (qP ..).symm
  exact ⟨_,rfl,e▸q _ G2 (fG ..)⟩
 ·exact ⟨_,rfl,q _ g rfl⟩
variable {P:Program} {w:World} {mg:Str→Option Value} {base:Heap} {Z:DC} (T:Txt Z mg)
def oD:Option Int→D
 |none=> .aN
 |some i=> .int i
def bu(f:List (Option Int)):D:= .lst (f.map oD)
theorem pk(o:Option Int):bU (oD o)=true:=by cases o<;>rfl
theorem Bu(o:Option Int):jc (oD o)=true:=by cases o<;>rfl
theorem eE(f:List (Option Int)):(f.map oD).all bU=true:=List.all_eq_true.mpr λd h=>by
 obtain ⟨o,_,rfl⟩:=dX.mp h;exact pk o
theorem AZ(a b:Option Int):fC (oD a) (oD b)=decide (a=b):=by
 cases a<;>cases b<;>simp [oD,fC]
 rename_i a b
 rw [Bool.eq_iff_iff];simp
theorem rG(a:Option Int):∀l:List (Option Int),inD (oD a) (l.map oD)=decide (a∈l)
 | []=>rfl
 |b::l=>by
  have:=rG a l
  unfold inD at this ⊢;rw [i9,List.any_cons,this,AZ,Bool.eq_iff_iff];simp only [Bool.or_eq_true,decide_eq_true_eq,cF];exact or_congr ⟨Eq.symm,Eq.symm⟩ Iff.rfl
theorem fO{f:List (Option Int)}{p:Nat}(h:p<f.length):cV (f.map oD) (p:Int)=some (oD (f.getD p none)):=dB (by rw [cT,cM,eG h];rfl)
theorem wj{n p:Nat}(h:p<n):dZ n (p:Int)=some p:=by
 unfold dZ;rw [if_pos (by omega),if_pos (by omega)]
 exact congrArg some (by omega)
def oP:Option Int→PyData
 |none=> .none
 |some i=> .int i
theorem A1(a b:Option Int):PyData.eqv (oP a) (oP b)=true↔a=b:=by
 cases a<;>cases b<;>simp [oP,PyData.eqv]
theorem qr(a b:List (Option Int)):PyData.eqv (.list (a.map oP)) (.list (b.map oP))=true↔a=b:=by
 rw [PyData.eqv];exact gL A1 a b
theorem xh(a b:List (Option Int)):PyData.eqv (.list (a.map oP)) (.list (b.map oP))=decide (a=b):=by
 by_cases e:a=b
 ·rw [decide_eq_true e];exact (qr a b).mpr e
 ·rw [decide_eq_false e]
  exact pW.mpr λz=>e ((qr a b).mp z)
theorem sU(a:List (Option Int)):(PyData.list (a.map oP)).depth≤2:=by
 have:=eM (f:=oP) (k:=1) (λo=>by cases o<;>simp [oP,PyData.depth]) a
 simp [PyData.depth];omega
theorem Fn(o:Option Int):(oD o).py=some (oP o):=by cases o<;>rfl
theorem t8(f:List (Option Int)):(bu f).py=some (.list (f.map oP)):=by
 unfold bu;rw [D.py,iQ (g:=oP) Fn];rfl
theorem w6{f g:List (Option Int)}{P:D→Prop}(h:P (.bl (!decide (f=g)))):w4 (bu f) (bu g) P:=by
 refine ⟨_,_,t8 f,t8 g,by have:=sU f;omega,?_⟩
 rw [if_pos rfl,xh];exact h
def Pr(w:W)(f:List (Option Int)):Prop:=∀p q d,q∈row w p→f.getD p none=some d→f.getD q none≠some d
theorem lY{f:List (Option Int)}{i:Nat}{c:Option Int}(h:i<f.length)(p:Nat):(f.set i c).getD p none=if p=i then c else f.getD p none:=by
 rw [cM,cM]
 by_cases e:p=i
 ·subst e
  rw [gw h,if_pos rfl];rfl
 ·rw [gx (Ne.symm e),if_neg e]
theorem Pr.set{w:W}{f:List (Option Int)}(g:Good w)(P:Pr w f){j:Nat}(hj:j<f.length){c:Option Int}(hc:∀d,c=some d→∀q∈row w j,f.getD q none≠some d):Pr w (f.set j c):=λp q d hq hp=>by
 rw [lY hj] at hp ⊢
 by_cases e:p=j
 ·subst e
  rw [if_pos rfl] at hp;rw [if_neg (λe=>g.irr p (by rw [e] at hq;exact hq))]
  exact hc d hp q hq
 ·rw [if_neg e] at hp
  split
  ·next e2=>
   subst e2;intro z;exact hc d z p (g.sym _ _ hq) hp
  ·exact P p q d hq hp
def xT:cj:=λds P=>∃(w:W)(xs dy:List Int),ds= [az w, .lst (bw xs), .lst (bw dy), .bl true]∧Good w∧w.length≤14∧xs.length=w.length∧dy.length≤100∧∀f:List (Option Int),f.length=w.length→Pr w f→(∀p d,f.getD p none=some d→d∈dy)→P (bu f)
theorem mm:FnOk P w Z.K mg base bS 1 T.d__law_dyeing.f T.d__law_dyeing.fd ["_law_turns","_law_draws_here","_law_dyes_here","_law_none"] (eY Z 1 xT):=by
 have nd:=iW.nd;refine jN 1 T.d__law_dyeing.F iW [0,0,0,0,1,0,1,1] (by decide) (λds R h=>by obtain ⟨_,_,_,rfl,_⟩:=h;rfl) (λbc A outer s H E ds R hr h=>?_)
 have hu:=hr.units
 refine ⟨_,(ag (dO 4 nd (AS (ab cC ah) (aF ba rfl T.B.len aZ (ab (aa 0) ah))))
   (ag (f9 rfl PassesOwn.never (dr rfl T.B.range (ab (aF ba rfl T.B.len aZ (ab (aa 0) ah)) ah)) (aR 5 nd) (ag (kP 6 nd (Ee (NC:= ["_law_q","_law_found"]) (src:= [none,some 4]) rfl (lS (au cL)) ⟨rfl,rfl,trivial⟩ (bD (aS (aa 0) (aa 5))) (λ_ _ _=>(b5 0 (show (["_law_q","_law_found"]:List Str).Nodup from by decide+kernel))) (λ_ _ _=>eW) (λ_ _ _=>(aS (aa 1) (aa 0)))))
   (ag (oF 7 (NC:= ["_law_dye","_law_taken"]) (src:= [none,some 6]) rfl nd (lS (au cL)) ⟨rfl,rfl,trivial⟩ (bD (aa 2)) (λ_ _ _=>(b5 0 (show (["_law_dye","_law_taken"]:List Str).Nodup from by decide+kernel))) (λ_ _ _=>(kQ (aP jQ (aa 0) (aa 1) (by with_unfolding_all rfl)))) (λ_ _ _=>(aa 0)))
   (ag (bA (DW.dt (yO (gK (aa 3)) (wa (aP (gZ hu) (aa 7) (bJ ah) (bf _))))) (ao (yF 7 nd (bJ (ab cC ah)))) aQ)
   (ao (jK true 4 (aa 5) (aS (aa 7) (ax bp (aS (aa 1) (aa 5)) (aF ba rfl T.B.len aZ (ab (aa 7) ah))))))))))
   (ao (yL 4)))),?_⟩
 obtain ⟨w',xs,dy,rfl,g,cz,xl,dl,q⟩:=h;have lw:(w'.map aq).length=w'.length:=aV _
 have rp:(List.replicate w'.length [D.aN]).flatten=(List.replicate w'.length (none:Option Int)).map oD:=by
  rw [List.map_replicate];generalize w'.length=n
  induction n with
  |zero=>rfl
  |succ n ih=>rw [nh,pV,ih];rfl
 refine ⟨by show 1≤sizeLine;decide,_,rfl,by omega,by omega,by show 1*_≤sizeLine;exact small (by omega),?_⟩
 refine ⟨_,rfl,⟨by omega,by show ((w'.map aq).length:Int)<2^62;omega⟩,?_⟩
 rw [show (((w'.map aq).length:Int)).toNat=w'.length by omega]
 have Q0:(bw xs).length=xs.length:=by unfold bw;simp
 refine eD (λj ρ=>∃(f:List (Option Int))(o5 o6 o7:Option D),ρ= [some (az w'),some (.lst (bw xs)),some (.lst (bw dy)),some (.bl true),some (bu f),o5,o6,o7]∧f.length=w'.length∧Pr w' f∧∀p d,f.getD p none=some d→d∈dy)
  ⟨List.replicate w'.length none,none,none,none,?_,pT,λp q d _ h=>?_,λp d h=>?_⟩ ?_ ?_
 ·rw [rp];rfl
 ·rw [cM,qR] at h
  split at h<;>cases h
 ·rw [cM,qR] at h
  split at h<;>cases h
 ·rintro j _ hj ⟨f,o5,o6,o7,rfl,fl,pr,hd⟩ A hA
  have rl:=e7 g j;refine ⟨_,rfl,_,rfl,_,gi hj,?_⟩;refine gN (ρ:= [none,some (bu f)]) ae (λx=>oD (f.getD x none)) (row w' j) _ (λx hx Y hY=>⟨_,rfl,_,rfl,_,fO (by have:=g.rng _ _ hx;omega),hY⟩) rfl (small (by omega)) λaE=>?_
  have e1:((row w' j).map λx=>oD (f.getD x none))=((row w' j).map λx=>f.getD x none).map oD:=by rw [lP];rfl
  rw [e1];have tm:∀c:Option Int,c∈((row w' j).map λx=>f.getD x none)↔∃x∈row w' j,f.getD x none=c:=λc=>dX;generalize ((row w' j).map λx=>f.getD x none)=tk at tm;refine ⟨eE _,?_⟩;refine ⟨_,rfl,?_⟩;refine jO (λρ=>∃o,ρ= [o,some (bu tk)]) D.int (λd=>!decide (some d∈tk)) D.int dy _ [] _ (λx hx aE hI Y Nn hY hN=>?_) ⟨none,rfl⟩ (by rw [qU,nv];exact small (by omega)) λaE hI=>?_
  ·obtain ⟨o,rfl⟩:=hI
   refine ⟨_,rfl,_,rfl,rfl,eE _,_,rfl,?_⟩;have e:inD (.int x) (tk.map oD)=decide (some x∈tk):=rG (some x) tk;rw [if_pos rfl,e];exact bB (λh=>⟨_,rfl,hY _ ⟨_,rfl⟩ h⟩) λh=>hN _ ⟨_,rfl⟩ h
  rw [qT]
  have fm:∀d∈dy.filter (λd=>!decide (some d∈tk)),d∈dy∧some d∉tk:=λd h=>by
   obtain ⟨h1,h2⟩:=uy.mp h;exact ⟨h1,by simpa using h2⟩
  have fz:(dy.filter (λd=>!decide (some d∈tk))).length≤dy.length:=List.length_filter_le ..;have e2:(dy.filter (λd=>!decide (some d∈tk))).map D.int=((dy.filter (λd=>!decide (some d∈tk))).map some).map oD:=by rw [lP];rfl
  have e3:∀x:Option Int,x∈(dy.filter (λd=>!decide (some d∈tk))).map some++ [none]→∀d,x=some d→d∈dy∧some d∉tk:=λx hx d hd=>by
   subst hd
   rcases b9.mp hx with h|h
   ·obtain ⟨y,hy,e⟩:=dX.mp h
    cases e;exact fm d hy
   ·rw [eI] at h;cases h
  have e4:((dy.filter (λd=>!decide (some d∈tk))).map some++ [none]).length=(dy.filter (λd=>!decide (some d∈tk))).length+1:=by simp
  rw [e2];refine ⟨eE _,?_⟩;refine ⟨_,rfl,rfl,b6 (b6 ?_)⟩;refine ⟨_,rfl,by show 1≤sizeLine;decide,_,rfl,by rw [aV,aV];exact small (by show _+1≤_;omega),?_⟩
  have e5:(((dy.filter (λd=>!decide (some d∈tk))).map some).map oD)++ [D.aN]=((dy.filter (λd=>!decide (some d∈tk))).map some++ [none]).map oD:=by rw [cE];rfl
  rw [e5];generalize (dy.filter (λd=>!decide (some d∈tk))).map some++ [none]=fr at e3 e4;have lf:(fr.map oD).length=fr.length:=aV _;have mq:=fk (xs.getD j 0) ((fr.map oD).length:Int) (by omega)
  obtain ⟨i,hi⟩:∃i:Nat,xs.getD j 0%((fr.map oD).length:Int)=(i:Int):=⟨(xs.getD j 0%((fr.map oD).length:Int)).toNat,by omega⟩
  have il:i<fr.length:=by omega
  have ai:cV (fr.map oD) (xs.getD j 0%((fr.map oD).length:Int))=some (oD (fr.getD i none)):=by rw [hi];exact fO il
  refine ⟨_,rfl,_,rfl,_,rfl,_,js (by omega),_,rfl,(by show (0:Int)<((fr.map oD).length:Int);omega),_,ai,Bu _,_,rfl,_,rfl,_,j,rfl,by rw [aV,fl];exact wj hj,?_⟩
  have gm:fr.getD i none∈fr:=by
   rw [cM,eG il];exact pY il
  have cc:=e3 _ gm;generalize fr.getD i none=c at cc;refine hA _ ⟨f.set j c,some (ae j),some (bu tk),some (bu fr),?_,by rw [fG,fl],pr.set g (by omega) λd hc q hq z=>?_,λp d h=>?_⟩
  ·have:bu (f.set j c)= .lst ((f.map oD).set j (oD c)):=by unfold bu;rw [qX]
   rw [this];rfl
  ·exact (cc d hc).2 ((tm _).mpr ⟨q,hq,z⟩)
  ·rw [lY (by omega)] at h
   split at h
   ·exact (cc d h).1
   ·exact hd p d h
 ·rintro _ ⟨f,o5,o6,o7,rfl,fl,pr,hd⟩
  exact ⟨_,rfl,q f fl pr hd⟩
inductive Cr (w:W) (ok:Nat→Prop) (p:Nat):Nat→Prop
 |base:Cr w ok p p
 |step {a b:Nat}:Cr w ok p a→b∈row w a→ok b→Cr w ok p b
theorem Cr.lt{w:W}{ok:Nat→Prop}{p x:Nat}(g:Good w)(hp:p<w.length)(h:Cr w ok p x):x<w.length:=by
 cases h with
 |base=>exact hp
 |step _ h _=>exact g.rng _ _ h
theorem Cr.all{w:W}{ok:Nat→Prop}{p:Nat}{M:Nat→Prop}(h0:M p)(hs:∀a b,M a→b∈row w a→ok b→M b){x:Nat}(h:Cr w ok p x):M x:=by
 induction h with
 |base=>exact h0
 |step _ h2 h3 ih=>exact hs _ _ ih h2 h3
def g7(f:List (Option Int))(p:Nat)(d:Int)(q:Nat):Prop:=f.getD q none=f.getD p none∨f.getD q none=some d
theorem nV(f:List (Option Int))(p:Nat)(d:Int)(q:Nat):inD (oD (f.getD q none)) [oD (f.getD p none), .int d]=true↔g7 f p d q:=by
 have:=rG (f.getD q none) [f.getD p none,some d]
 rw [show [oD (f.getD p none),D.int d]= [f.getD p none,some d].map oD from rfl,this,decide_eq_true_iff,cF,eI];exact Iff.rfl
theorem mE:∀{a b:List Nat},a.Pairwise (·<·)→b.Pairwise (·<·)→(∀x,x∈a↔x∈b)→a=b
 | [],[],_,_,_=>rfl
 | [],y::b,_,_,h=>absurd ((h y).mpr (eH ..)) (by simp)
 |x::a,[],_,_,h=>absurd ((h x).mp (eH ..)) (by simp)
 |x::a,y::b,ha,hb,h=>by
  rw [List.pairwise_cons] at ha hb;have hx:=(h x).mp (eH ..);have hy:=(h y).mpr (eH ..)
  have e:x=y:=by
   rcases cF.mp hx with e|hx
   ·exact e
   ·rcases cF.mp hy with e|hy
    ·exact e.symm
    ·have:=ha.1 y hy;have:=hb.1 x hx;omega
  subst e;rw [mE ha.2 hb.2 λz=>⟨λhz=>?_,λhz=>?_⟩]
  ·rcases cF.mp ((h z).mp (fg _ hz)) with e|h
   ·have:=ha.1 z hz;omega
   ·exact h
  ·rcases cF.mp ((h z).mpr (fg _ hz)) with e|h
   ·have:=hb.1 z hz;omega
   ·exact h
def Am:cj:=λds P=>∃(w:W)(f:List (Option Int))(p:Nat)(d:Int),ds= [.iH w,bu f,ae p, .int d]∧Good w∧w.length≤14∧p<w.length∧f.length=w.length∧∀L:List Nat,L.Pairwise (·<·)→(∀x,x∈L↔Cr w (g7 f p d) p x)→P (aq L)
theorem qy{ms:List Int}{ns:List Nat}(pm:ms.Perm (ns.map λ(n:Nat)=>(n:Int)))(vJ:ms.Pairwise (·≤·))(nd:ns.Nodup):∃L:List Nat,ms.map D.int=L.map ae∧L.Pairwise (·<·)∧L.Perm ns:=by
 have e:∀m∈ms,((m.toNat:Nat):Int)=m:=λm hm=>by
  obtain ⟨n,_,rfl⟩:=dX.mp (pm.mem_iff.mp hm);simp
 have pn:(ms.map Int.toNat).Perm ns:=by
  have:=pm.map Int.toNat
  rw [lP] at this;rw [show (Int.toNat∘λ(n:Nat)=>(n:Int))=id from by funext n;simp] at this
  simpa using this
 refine ⟨ms.map Int.toNat,?_,?_,pn⟩
 ·rw [lP]
  exact List.map_congr_left λm hm=>by show D.int m=ae m.toNat;unfold ae;rw [e m hm]
 ·have tS:=pn.nodup_iff.mpr nd
  rw [wK,nj] at tS;rw [nj]
  exact (vJ.and tS).imp λ {a b} ⟨h1,h2⟩=>by
   have:a.toNat≤b.toNat:=Int.toNat_le_toNat h1
   omega
theorem pz:FnOk P w Z.K mg base bS 2 T.d_chain.f T.d_chain.fd ["web","dyeing","p","dye"] (eY Z 1 Am):=by
 have nd:=qL.nd;refine jN 1 T.d_chain.F qL [0,0,0,0,0,0,99,1,0] (by decide) (λds R h=>by obtain ⟨_,_,_,_,rfl,_⟩:=h;rfl) (λbc A outer s H E ds R hr h=>?_)
 have hu:=hr.units
 refine ⟨_,(ag (aC false 4 nd (qm T.W (aa 0) T.m_turns.m (j3 T) (hr.mono (by decide)) T.m_turns.b))
   (ag (aC false 5 nd (eJ (ab (aS (aa 1) (aa 2)) (ab (aa 3) ah))))
   (ag (yM 6 nd rfl T.x_set)
   (ag (dO 7 nd (fJ (ab (aa 2) ah)))
   (ag (ie PassesOwn.never (gK (aa 7)) (ag (v8 8 7 nd)
   (ao (bA (DW.dt (rm (aP vv (aa 8) (aa 6) (by with_unfolding_all rfl)) (oG (aP rN (aS (aa 1) (aa 8)) (aa 5) (by with_unfolding_all rfl))))) (ag (yG false 6 (aa 8))
   (ao (AX 7 (aS (aa 4) (aa 8))))) aQ))))
   (ao (sX (xf rfl rfl T.B.sorted (aa 6))))))))),?_⟩
 obtain ⟨w',f,p,d,rfl,g,cz,hp,fl,q⟩:=h;refine ⟨_,rfl,w',rfl,w',rfl,cz,trivial,?_⟩;refine ⟨_,rfl,_,rfl,_,fO (by omega),_,rfl,by show 2≤sizeLine;decide,trivial,?_⟩
 refine ⟨_,rfl,by show 1≤sizeLine;decide,?_⟩
 refine gu (λm ρ=>∃(ws ms:List Nat)(o8:Option D),ρ= [some (.iH w'),some (bu f),some (ae p),some (.int d),some (az w'),some (.tup [oD (f.getD p none), .int d]),some (.set (cG w) (ms.map λ(n:Nat)=>(n:Int))),some (.lst (ws.map ae)),o8]∧ms.Nodup∧(∀x∈ms,Cr w' (g7 f p d) p x)∧(∀z∈ws,z<w'.length∧(g7 f p d z→Cr w' (g7 f p d) p z))∧
  (p∈ms∨p∈ws)∧(∀x∈ms,∀y∈row w' x,g7 f p d y→y∈ms∨y∈ws)∧m=ws.length+20*(20-ms.length)∧ws.length≤20+20*ms.length) 401 ?_ ?_
 ·exact ⟨[p],[],_,rfl,fH,(λx hx=>nomatch hx),λz hz=>by
   rw [eI] at hz;subst hz;exact ⟨hp,λ_=> .base⟩, .inr (by simp),(λx hx=>nomatch hx),rfl,by show 1≤20+0;omega⟩
 rintro m _ ⟨ws,ms,o8,rfl,nm,hm,hw,c1,c2,em,hz⟩;have Qf:g7 f p d p:= .inl rfl
 have ml:ms.length≤14:=by
  have:=aH (m:=List.range w'.length) nm λx hx=>cq.mpr ((hm x hx).lt g hp)
  rw [j9] at this;omega
 refine ⟨_,rfl,rfl,?_⟩
 rcases List.eq_nil_or_concat ws with rfl| ⟨lL,y,e⟩
 ·refine cD ?_
  refine ⟨_,rfl,_,rfl,by rw [aV];omega,λks pm vJ=>?_⟩
  obtain ⟨L,e1,e2,e3⟩:=qy pm vJ nm;rw [e1];refine q L e2 λx=>?_;rw [e3.mem_iff];refine ⟨hm x,λhx=>?_⟩;refine hx.all (M:=λx=>x∈ms) (c1.elim id λh=>nomatch h) λa b ha hb hk=>?_;exact (c2 a ha b hb hk).elim id λh=>nomatch h
 ·rw [List.concat_eq_append] at e
  subst e;rw [show qO (.lst ((lL++ [y]).map ae))=true by simp [qO]]
  refine b6 ?_;rw [cu] at em hz;simp only [lM] at em hz;refine ⟨lL.map ae,ae y,by rw [cE];rfl,?_⟩
  have hy:=hw y (by simp)
  have C4:∀x:Nat,decide ((x:Int)∈ms.map λ(n:Nat)=>(n:Int))=decide (x∈ms):=λx=>by
   refine decide_eq_decide.mpr ?_;rw [dX]
   exact ⟨λ⟨y,hy,e⟩=>by have:y=x:=by omega
                        rw [←this];exact hy,λh=>⟨x,h,rfl⟩⟩
  have keep:∀(F:DN→Prop),(y∈ms∨¬g7 f p d y)→(∀ρ,(∃(ws ms:List Nat)(o8:Option D),ρ= [some (.iH w'),some (bu f),some (ae p),some (.int d),some (az w'),some (.tup [oD (f.getD p none), .int d]),some (.set (cG w) (ms.map λ(n:Nat)=>(n:Int))),some (.lst (ws.map ae)),o8]∧ms.Nodup∧(∀x∈ms,Cr w' (g7 f p d) p x)∧(∀z∈ws,z<w'.length∧(g7 f p d z→Cr w' (g7 f p d) p z))∧
    (p∈ms∨p∈ws)∧(∀x∈ms,∀y∈row w' x,g7 f p d y→y∈ms∨y∈ws)∧m-1=ws.length+20*(20-ms.length)∧ws.length≤20+20*ms.length)→F ρ)→
    F [some (.iH w'),some (bu f),some (ae p),some (.int d),some (az w'),some (.tup [oD (f.getD p none), .int d]),some (.set (cG w) (ms.map λ(n:Nat)=>(n:Int))),some (.lst (lL.map ae)),some (ae y)]:=λF hp hF=>by
   have drop:∀z,g7 f p d z→(z∈ms∨z∈lL++ [y])→(z∈ms∨z∈lL):=λz n h=>by
    rcases h with h|h
    ·exact .inl h
    ·rcases b9.mp h with h|h
     ·exact .inr h
     ·rw [eI] at h
      subst h;exact hp.elim .inl λhp=>absurd n hp
   exact hF _ ⟨lL,ms,_,rfl,nm,hm,λz hz=>hw z (fc _ hz),drop p Qf c1,λx hx y hy n=>drop y n (c2 x hx y hy n),by omega,by omega⟩
  refine ⟨_,rfl,_,rfl,_,_,_,rfl,rfl,_,rfl,?_⟩;refine (?_:if (if true=true then !decide ((y:Int)∈ms.map λ(n:Nat)=>(n:Int)) else _)=true then _ else _);rw [if_pos rfl,C4];refine bB (λnq=>?_) (λnq=>?_)
  ·have nq:y∉ms:=by simpa using nq
   refine ⟨_,rfl,_,rfl,_,fO (by omega),_,rfl,pk _,eE [f.getD p none,some d],_,rfl,?_⟩
   refine (?_:if (if false=true then _ else inD (oD (f.getD y none)) [oD (f.getD p none), .int d])=true then _ else _);rw [if_neg b8];refine bB (λok=>?_) (λok=>?_)
   ·have ok:=(nV f p d y).mp ok
    have cy:=hy.2 ok;have rl:=e7 g y;refine ⟨_,rfl,_,rfl,y,rfl,by rw [aV];omega,?_⟩
    refine ⟨_,rfl,_,rfl,_,rfl,_,gi hy.1,_,rfl,(by rw [aV,aV];exact small (by omega)),?_⟩
    have e1:qv (ms.map λ(n:Nat)=>(n:Int)) (y:Int)=(ms++ [y]).map λ(n:Nat)=>(n:Int):=by
     unfold qv;rw [if_neg (by have:=C4 y;rw [decide_eq_false nq] at this;exact of_decide_eq_false this),cE];rfl
    refine ⟨(lL++row w' y).length+20*(20-(ms++ [y]).length),by rw [cu,cu,lM];omega,lL++row w' y,ms++ [y],some (ae y),?_,?_,?_,?_,?_,?_,rfl,?_⟩
    ·rw [←e1,show (lL++row w' y).map ae=lL.map ae++(row w' y).map ae from cE ..];rfl
    ·rw [jD]
     refine ⟨nm,by simp,λx hx y hy z=>nq ?_⟩
     rw [eI] at hy;rw [←hy,←z];exact hx
    ·intro x hx
     rcases b9.mp hx with hx|hx
     ·exact hm x hx
     ·rw [eI] at hx;rw [hx];exact cy
    ·intro z hz
     rcases b9.mp hz with hz|hz
     ·exact hw z (fc _ hz)
     ·exact ⟨g.rng _ _ hz,λh=> .step cy hz h⟩
    ·rcases c1 with h|h
     ·exact .inl (fc _ h)
     ·rcases b9.mp h with h|h
      ·exact .inr (fc _ h)
      ·exact .inl (dg _ h)
    ·intro x hx z hz n
     rcases b9.mp hx with hx|hx
     ·rcases c2 x hx z hz n with h|h
      ·exact .inl (fc _ h)
      ·rcases b9.mp h with h|h
       ·exact .inr (fc _ h)
       ·exact .inl (dg _ h)
     ·rw [eI] at hx
      subst hx;exact .inr (dg _ hz)
    ·rw [cu,cu,lM];omega
   ·exact keep _ (.inr λz=>by rw [(nV f p d y).mpr z] at ok;cases ok) λρ h=>⟨m-1,by omega,h⟩
  ·exact cD (keep _ (.inl (by simpa using nq)) λρ h=>⟨m-1,by omega,h⟩)
variable {P:Program} {w:World} {mg:Str→Option Value} {base:Heap} {Z:DC} (T:Txt Z mg)
def xS:cj:=λds P=>∃(w:W)(f:List (Option Int))(p:Nat)(d:Int),ds= [az w,bu f,ae p, .int d]∧Good w∧w.length≤14∧p<w.length∧f.length=w.length∧∀L:List Nat,L.Pairwise (·<·)→(∀x,x∈L↔Cr w (g7 f p d) p x)→P (aq L)
theorem nG:FnOk P w Z.K mg base bS 1 T.d__law_chain.f T.d__law_chain.fd ["_law_turns","_law_dyeing_here","_law_p","_law_dye"] (eY Z 1 xS):=by
 have nd:=jv.nd;refine jN 1 T.d__law_chain.F jv [0,0,0,0,1,0,0] (by decide) (λds R h=>by obtain ⟨_,_,_,_,rfl,_⟩:=h;rfl) (λbc A outer s H E ds R hr h=>?_)
 have hu:=hr.units
 refine ⟨_,(ag (dO 4 nd (fJ (ab (aa 2) ah)))
   (ag (aC false 5 nd av)
   (ag (ie PassesOwn.never (aP rO (aa 5) (aF ba rfl T.B.len aZ (ab (aa 4) ah)) (bf _)) (ag (yJ 0 rfl PassesOwn.never (aS (aa 4) (aa 5)) (aR 6 nd) (ao (bA (DW.dt (rm (aP jQ (aa 6) (aa 4) (by with_unfolding_all rfl)) (oG (aP rN (aS (aa 1) (aa 6)) (eJ (ab (aS (aa 1) (aa 2)) (ab (aa 3) ah))) (by with_unfolding_all rfl))))) (ao (fK false 4 (aa 6))) aQ)))
   (ao (aC false 5 nd (ax bq (aa 5) av)))))
   (ao (sX (xc rfl T.B.sorted (aa 4))))))),?_⟩
 obtain ⟨w',f,p,d,rfl,g,cz,hp,fl,q⟩:=h;refine ⟨_,rfl,by show 1≤sizeLine;decide,?_⟩
 refine ⟨trivial,?_⟩
 have few:∀fs:List Nat,fs.Nodup→(∀x∈fs,Cr w' (g7 f p d) p x)→fs.length≤14:=λfs nf hf=>by
  have:=aH (m:=List.range w'.length) nf λx hx=>cq.mpr ((hf x hx).lt g hp)
  rw [j9] at this;omega
 refine gu (λm ρ=>∃(fs:List Nat)(k:Nat)(o:Option D),ρ= [some (az w'),some (bu f),some (ae p),some (.int d),some (aq fs),some (ae k),o]∧fs.Nodup∧(∀x∈fs,Cr w' (g7 f p d) p x)∧p∈fs∧k≤fs.length∧(∀i,i<k→∀y∈row w' (fs.getD i 0),g7 f p d y→y∈fs)∧m=20-k) 20 ?_ ?_
 ·exact ⟨[p],0,none,rfl,by simp,λx hx=>by rw [eI] at hx;subst hx;exact .base,by simp,gB _,(λi hi=>absurd hi (by omega)),rfl⟩
 rintro m _ ⟨fs,k,o,rfl,nf,hf,pf,kl,cl,rfl⟩;have Rc:=few fs nf hf;have lf:(fs.map ae).length=fs.length:=aV _;refine ⟨_,rfl,_,rfl,_,rfl,bB (λhb=>?_) λhb=>?_⟩
 ·have kl:k<fs.length:=by
   have:=of_decide_eq_true hb
   omega
  have af:fs.getD k 0∈fs:=getD_mem kl;have al:=(hf _ af).lt g hp;have rl:=e7 g (fs.getD k 0);refine ⟨_,rfl,_,rfl,_,rfl,_,dQ kl,_,_,rfl,gi al,?_⟩;refine bQ (λj ρ=>∃(ig:List Nat)(o:Option D),ρ= [some (az w'),some (bu f),some (ae p),some (.int d),some (aq ig),some (ae k),o]∧ig.Nodup∧(∀x∈ig,Cr w' (g7 f p d) p x)∧(∃t,ig=fs++t)∧∀y∈(row w' (fs.getD k 0)).take j,g7 f p d y→y∈ig) ⟨fs,_,rfl,nf,hf,⟨[],by simp⟩,λy hy=>by simp at hy⟩ ?_ ?_
  ·rintro j _ _ hd ⟨ig,o,rfl,n2,h2,⟨t,ht⟩,c2⟩ A hA
   obtain ⟨y,hy,rfl⟩:=cn hd;have ym:y∈row w' (fs.getD k 0):=ee hy
   have tk:(row w' (fs.getD k 0)).take (j+1)=(row w' (fs.getD k 0)).take j++ [y]:=by
    rw [List.take_succ,hy];rfl
   have f2:=few ig n2 h2
   have keep:(y∈ig∨¬g7 f p d y)→A [some (az w'),some (bu f),some (ae p),some (.int d),some (aq ig),some (ae k),some (ae y)]:=λhk=>by
    refine hA _ ⟨ig,some (ae y),rfl,n2,h2,⟨t,ht⟩,λz hz ok=>?_⟩;rw [tk] at hz
    rcases b9.mp hz with hz|hz
    ·exact c2 z hz ok
    ·rw [eI] at hz
     subst hz;exact hk.elim id λh=>absurd ok h
   refine ⟨_,rfl,_,rfl,rfl,bN _,_,rfl,?_⟩;refine (?_:if (if true=true then !inD (ae y) (ig.map ae) else _)=true then _ else _);rw [if_pos rfl,jr];refine bB (λnr=>?_) (λnr=>?_)
   ·have nr:y∉ig:=by simpa using nr
    refine ⟨_,rfl,_,rfl,_,fO (by have:=g.rng _ _ ym;omega),_,rfl,_,rfl,_,fO (by omega),_,rfl,by show 2≤sizeLine;decide,pk _,eE [f.getD p none,some d],_,rfl,?_⟩
    refine (?_:if (if false=true then _ else inD (oD (f.getD y none)) [oD (f.getD p none), .int d])=true then _ else _);rw [if_neg b8];refine bB (λok=>?_) (λok=>?_)
    ·have ok:=(nV f p d y).mp ok
     refine ⟨_,rfl,_,rfl,trivial,bI (by rw [aV];omega),?_⟩
     refine hA _ ⟨ig++ [y],some (ae y),?_,?_,?_,⟨t++ [y],by rw [ht,lN]⟩,λz hz ok=>?_⟩
     ·have:aq (ig++ [y])= .lst (ig.map ae++ [ae y]):=by unfold aq;rw [cE];rfl
      rw [this];rfl
     ·rw [jD]
      refine ⟨n2,by simp,λx hx z hz e=>nr ?_⟩
      rw [eI] at hz;rw [←hz,←e];exact hx
     ·intro x hx
      rcases b9.mp hx with hx|hx
      ·exact h2 x hx
      ·rw [eI] at hx
       subst hx;exact .step (hf _ af) ym ok
     ·rw [tk] at hz
      rcases b9.mp hz with hz|hz
      ·exact fc _ (c2 z hz ok)
      ·exact dg _ hz
    ·exact keep (.inr λz=>by rw [(nV f p d y).mpr z] at ok;cases ok)
   ·exact cD (keep (.inl (by simpa using nr)))
  ·rintro _ ⟨ig,o,rfl,n2,h2,⟨t,ht⟩,c2⟩
   rw [aV,List.take_length] at c2;refine ⟨_,rfl,trivial,?_⟩
   have g2:∀i,i<fs.length→ig.getD i 0=fs.getD i 0:=λi hi=>by
    rw [ht,cM,cM,gS hi]
   have l2:fs.length≤ig.length:=by rw [ht,cu];omega
   have s2:∀x∈fs,x∈ig:=λx hx=>by rw [ht];exact fc _ hx
   refine ⟨20-(k+1),by omega,ig,k+1,o,rfl,n2,h2,s2 p pf,by omega,λi hi y hy ok=>?_,rfl⟩
   rw [g2 i (by omega)] at hy
   by_cases e:i=k
   ·subst e;exact c2 y hy ok
   ·exact s2 y (cl i (by omega) y hy ok)
 ·have kl:¬(k<fs.length):=λh=>by
   have:=of_decide_eq_false hb
   omega
  refine ⟨_,rfl,fs.map λ(n:Nat)=>(n:Int),?_,by rw [aV];omega,λks pm vJ=>?_⟩
  ·rw [lP];rfl
  obtain ⟨L,e1,e2,e3⟩:=qy pm vJ nf;rw [e1];refine q L e2 λx=>?_;rw [e3.mem_iff];refine ⟨hf x,λhx=>?_⟩;refine hx.all (M:=λx=>x∈fs) pf λa b ha hb hk=>?_;obtain ⟨i,hi,e⟩:=List.mem_iff_getElem.mp ha;refine cl i (by omega) b ?_ hk
  rw [cM,eG hi];show b∈row w' fs[i];rw [e];exact hb
variable {P:Program} {w:World} {mg:Str→Option Value} {base:Heap} {Z:DC} (T:Txt Z mg)
theorem wD{c:bY}{t u:bF}{E:bT}{ρ:DN}(I:DN→Prop)(h:∀E':bT,(∀ρ,I ρ→E'.nx ρ)→ox c t kg E' ρ)(k:∀ρ,I ρ→u E ρ):oy (ox c t kg) u E ρ:=h _ k
theorem vV{t u:bF}{E:bT}{aE:DN}(ρ:DN)(e:aE=ρ)(h:oy t u E ρ):oy t u E aE:=by rw [e];exact h
theorem vD{c:bY}{t u:bF}{E:bT}{ρ:DN}(I:DN→Prop)(h:∀E':bT,(∀ρ,I ρ→E'.nx ρ)→nP c t E' ρ)(k:∀ρ,I ρ→u E ρ):oy (nP c t) u E ρ:=h _ k
theorem Bv:FnOk P w Z.K mg base bS 6 T.d_law.f T.d_law.fd ["_law_script"] (aU Z wG):=by
 have nd:=wC.nd;refine aX T.d_law.F wC [0,0,0,1,0,1,0,0,1,1,1] (by decide) (λds R h=>by obtain ⟨_,rfl,_⟩:=h;rfl) (λbc A outer s H E ds R hr h=>?_)
 have hu:=hr.units
 refine ⟨_,(ag (aC false 1 nd (aB T.d__law_web (rS T) hr (ab (aB T.d__law_draws (gf T) hr (ab (aa 0) (ab av (ab (ax bp (aB T.d__law_cell_at (bh T) hr (ab (aa 0) (ab av ah))) av) ah)))) ah)))
   (ag (aC false 1 nd (aB T.d__law_named (pC T) hr (ab (aa 1) (ab (aB T.d__law_draws (gf T) hr (ab (aa 0) (ab av (ab (aF ba rfl T.B.len aZ (ab (aa 1) ah)) ah)))) ah))))
   (ag (bA (aP (gZ hu) (ax bp (aB T.d__law_cell_at (bh T) hr (ab (aa 0) (ab av ah))) av) av (bf _)) (ao (aC false 1 nd (aB T.d__law_twisted (mv T) hr (ab (aa 1) (ab (ax eN (aB T.d__law_cell_at (bh T) hr (ab (aa 0) (ab av ah))) av) ah))))) aQ)
   (ag (aC false 2 nd (aB T.d__law_dyes (qe T) hr (ab (aB T.d__law_cell_at (bh T) hr (ab (aa 0) (ab av ah))) ah)))
   (ag (dO 3 nd (lV T.d__law_dyeing (mm T) hr (ab (aa 1) (ab (aB T.d__law_draws (gf T) hr (ab (aa 0) (ab av (ab (aF ba rfl T.B.len aZ (ab (aa 1) ah)) ah)))) (ab (aa 2) (ab lT ah))))))
   (ag (aC false 4 nd (ax bp (aB T.d__law_cell_at (bh T) hr (ab (aa 0) (ab av ah))) (aF ba rfl T.B.len aZ (ab (aa 1) ah))))
   (ag (bA (aP (gZ hu) (oA (NC:= ["_law_q","_law_dyeing_here"]) (src:= [none,some 3]) rfl (lS (au pO)) ⟨rfl,rfl,trivial⟩ (oB rfl T.B.range (ab (aF ba rfl T.B.len aZ (ab (aa 1) ah)) ah)) (λ_ _ _=>(b5 0 (show (["_law_q","_law_dyeing_here"]:List Str).Nodup from by decide+kernel))) (λ_ _ _=>(kQ (aP qJ (aS (aa 1) (aa 0)) cC (bf _)))) (λ_ _ _=>(aa 0))) (bJ ah) (bf _)) (ao (jK false 3 (aa 4) (aS (aa 2) av))) aQ)
   (ag (ie PassesOwn.never (aP pw (aS (aa 3) (aa 4)) cC (bf _)) (ao (aC false 4 nd (ax bp (ax bq (aa 4) av) (aF ba rfl T.B.len aZ (ab (aa 1) ah))))))
   (ag (oF 5 (NC:= ["_law_dye","_law_dyeing_here","_law_p"]) (src:= [none,some 3,some 4]) rfl nd (lS (au pO)) ⟨rfl,rfl,rfl,rfl,trivial⟩ (bD (aa 2)) (λ_ _ _=>(b5 0 (show (["_law_dye","_law_dyeing_here","_law_p"]:List Str).Nodup from by decide+kernel))) (λ_ _ _=>(kQ (aP (rP hu) (aa 0) (aS (aa 1) (aa 2)) (bf _)))) (λ_ _ _=>(aa 0)))
   (ag (aC true 6 nd (aS (aa 5) (ax bp (ax eN (aB T.d__law_cell_at (bh T) hr (ab (aa 0) (ab av ah))) av) (aF ba rfl T.B.len aZ (ab (aa 5) ah)))))
   (ag (aC false 7 nd (yC T.mkW (mn T) (hr.mono (by decide)) rfl T.mC T.m___init__b (ab (aa 1) ah)))
   (ag (kP 8 nd (sW rfl rfl T.B.list h8 (aa 3)))
   (ag (kP 9 nd (lV T.d_chain (pz T) hr (ab (aa 7) (ab (aa 8) (ab (aa 4) (ab (aa 6) ah))))))
   (ag (kP 10 nd (lV T.d__law_chain (nG T) hr (ab (aa 1) (ab (aa 3) (ab (aa 4) (ab (aa 6) ah))))))
   (ag (bA (DW.dt (yO (jL (gK (aB T.d__law_is_list (iA T) hr (ab (aa 9) (ab (aa 10) ah))))) (wa (aP (rP hu) (aa 8) (aa 3) (bf _))))) (ao (aO lT)) aQ)
   (ag (fK false 9 av)
   (ao (aO (jJ (aB T.d__law_is_list (iA T) hr (ab (aB T.d_chain ((pz T).imp KD) hr (ab (aa 7) (ab (aa 8) (ab (aa 4) (ab (aa 6) ah))))) (ab (aa 10) ah))) (nQ (rj (gZ hu) (qm T.W (aa 7) T.m_turns.m (j3 T) (hr.mono (by decide)) T.m_turns.b) (aa 1) (bf _)))))))))))))))))))))),?_⟩
 obtain ⟨ns,rfl,u0,q⟩:=h;refine ⟨_,rfl,_,rfl,ns,2,rfl,λv=>⟨(by show (0:Int)<14;decide),?_⟩⟩
 obtain ⟨n,hn,HC⟩:∃n:Nat,v%14=(n:Int)∧n≤13:=by
  have:=fk v 14 (by decide)
  exact ⟨(v%14).toNat,by omega,by omega⟩
 dsimp only;rw [show D.int (v%14)=ae n by unfold ae;rw [hn]]
 refine ⟨ns,1,n,rfl,by omega,by omega,λxs xl=>⟨xs,rfl,by omega,λw0 g0 l0=>⟨trivial,?_⟩⟩⟩
 have Rr:(w0.map aq).length=w0.length:=aV _;refine ⟨_,rfl,_,rfl,_,rfl,ns,3,(w0.map aq).length,rfl,by omega,by omega,λys yl=>⟨w0,ys,rfl,g0,by omega,by omega,by omega,λw1 g1 l1=>⟨trivial,?_⟩⟩⟩
 dsimp only;refine vV [some (.e8 ns),some (az w1),none,none,none,none,none,none,none,none,none] rfl ?_;refine wD (λρ=>∃w',ρ= [some (.e8 ns),some (az w'),none,none,none,none,none,none,none,none,none]∧Good w'∧w'.length=n+1) (λE' hE=>?_) ?_
 ·refine ⟨_,rfl,ns,7,rfl,λv7=>⟨(by show (0:Int)<2;decide),Ep ⟨_,rfl,bB (λ_=>?_) λ_=>?_⟩⟩⟩
  ·exact ⟨_,rfl,_,rfl,ns,7,rfl,λv7=>⟨⟨by decide,by decide⟩,w1,_,rfl,g1,by omega,by omega,λv gv lv=>⟨trivial,hE _ ⟨v,rfl,gv,by omega⟩⟩⟩⟩
  ·exact hE _ ⟨w1,rfl,g1,by omega⟩
 rintro _ ⟨w',rfl,g,wl⟩;have lw:(w'.map aq).length=w'.length:=aV _;refine ⟨_,rfl,ns,4,rfl,λv4=>⟨v4,rfl,λlow m m2 m4=>⟨trivial,?_⟩⟩⟩;have Q7:(cx low m).length=m:=by unfold cx;simp
 refine ⟨_,rfl,_,rfl,_,rfl,ns,5,(w'.map aq).length,rfl,by omega,by omega,λzs zl=>⟨_,rfl,w',zs,cx low m,rfl,g,by omega,by omega,by omega,λf0 Et Rv Ri=>⟨_,rfl,?_⟩⟩⟩
 refine ⟨_,rfl,ns,6,rfl,λv6=>⟨_,rfl,(by show (0:Int)<((w'.map aq).length:Int);omega),trivial,?_⟩⟩
 obtain ⟨p0,Nq,zh⟩:∃p:Nat,v6%((w'.map aq).length:Int)=(p:Int)∧p<w'.length:=by
  have:=fk v6 ((w'.map aq).length:Int) (by omega)
  exact ⟨(v6%((w'.map aq).length:Int)).toNat,by omega,by omega⟩
 have n0:(0:Nat)<(cx low m).length:=by omega
 have nn:none=(none:Option D):=rfl;dsimp only;refine vV [some (.e8 ns),some (az w'),some (.lst (bw (cx low m))),some (bu f0),some (.int (v6%((w'.map aq).length:Int))),none,none,none,none,none,none] rfl ?_;rw [Nq];refine wD (λρ=>∃f,ρ= [some (.e8 ns),some (az w'),some (.lst (bw (cx low m))),some (bu f),some (ae p0),none,none,none,none,none,none]∧f.length=w'.length∧∃x c,x<w'.length∧f.getD x none=some c) (λE' hE=>?_) ?_
 ·refine ⟨_,rfl,⟨by omega,by show ((w'.map aq).length:Int)<2^62;omega⟩,?_⟩
  rw [show (((w'.map aq).length:Int)).toNat=w'.length by omega,pM]
  refine jO (λρ=>∃o,ρ= [o,some (bu f0)]) ae (λx=>(f0.getD x none).isSome) ae (List.range w'.length) _ [] _ (λx hx aE hI Y Nn hY hN=>?_) ⟨none,rfl⟩ (by rw [qU,nv,j9];exact small (by omega)) λaE hI=>?_
  ·obtain ⟨o,rfl⟩:=hI
   have hx:=cq.mp hx;refine ⟨_,rfl,_,rfl,_,fO (by omega),?_⟩
   cases hf:f0.getD x none with
   |none=>exact ⟨_,rfl,hN _ ⟨_,rfl⟩ (by rw [hf];rfl)⟩
   |some c=>exact ⟨_,rfl,b6 ⟨_,rfl,hY _ ⟨_,rfl⟩ (by rw [hf];rfl)⟩⟩
  rw [qT];refine ⟨by show 0≤sizeLine;decide,?_⟩
  refine (?_:rg (aq ((List.range w'.length).filter λx=>(f0.getD x none).isSome)) (aq []) _);refine kL ⟨_,rfl,bB (λhb=>?_) λhb=>?_⟩
  ·refine ⟨_,rfl,_,js (p:=0) n0,trivial,_,rfl,_,rfl,_,p0,rfl,by rw [aV,Et];exact wj zh,?_⟩
   refine hE _ ⟨f0.set p0 (some ((cx low m).getD 0 0)),?_,by rw [fG,Et],p0,_,zh,by rw [lY (by omega),if_pos rfl]⟩
   have:bu (f0.set p0 (some ((cx low m).getD 0 0)))= .lst ((f0.map oD).set p0 (.int ((cx low m).getD 0 0))):=by unfold bu;rw [qX];rfl
   rw [this];rfl
  ·have ne:(List.range w'.length).filter (λx=>(f0.getD x none).isSome)≠ []:=of_decide_eq_false hb
   obtain ⟨x,hx⟩:=List.exists_mem_of_ne_nil _ ne;obtain ⟨h1,h2⟩:=uy.mp hx;obtain ⟨c,hc⟩:=Option.isSome_iff_exists.mp h2;exact hE _ ⟨f0,rfl,Et,x,c,cq.mp h1,hc⟩
 rintro _ ⟨f,rfl,fl,x0,c0,Rn,HM⟩;refine vD (λρ=>∃p,ρ= [some (.e8 ns),some (az w'),some (.lst (bw (cx low m))),some (bu f),some (ae p),none,none,none,none,none,none]∧p<w'.length∧∃c,f.getD p none=some c) (λE' hE=>?_) ?_
 ·refine gu (λk ρ=>∃p,ρ= [some (.e8 ns),some (az w'),some (.lst (bw (cx low m))),some (bu f),some (ae p),none,none,none,none,none,none]∧p<w'.length∧k=if p≤x0 then x0-p else x0+w'.length-p) _ ⟨p0,rfl,zh,rfl⟩ ?_
  rintro k _ ⟨p,rfl,hp,rfl⟩;refine ⟨_,rfl,_,rfl,_,fO (by omega),?_⟩
  cases hf:f.getD p none with
  |some c=>exact ⟨_,rfl,hE _ ⟨p,rfl,hp,c,hf⟩⟩
  |none=>
   have ne:p≠x0:=by rintro rfl;rw [hf] at HM;cases HM
   refine ⟨_,rfl,b6 ?_⟩;refine ⟨_,rfl,_,rfl,(by show (0:Int)<((w'.map aq).length:Int);omega),trivial,?_⟩
   obtain ⟨p',e',iu,nE⟩:∃p':Nat,((p:Int)+1)%((w'.map aq).length:Int)=(p':Int)∧p'<w'.length∧(p'=p+1∨(p'=0∧p+1=w'.length)):=by
    rw [lw]
    by_cases z:p+1<w'.length
    ·exact ⟨p+1,Int.emod_eq_of_lt (by omega) (by omega),z, .inl rfl⟩
    ·exact ⟨0,by rw [show (p:Int)+1=(w'.length:Int) by omega];exact Int.emod_self,by omega, .inr ⟨rfl,by omega⟩⟩
   refine ⟨if p'≤x0 then x0-p' else x0+w'.length-p',?_,p',?_,iu,rfl⟩
   ·split<;>split<;>omega
   ·have:ae p'= .int (((p:Int)+1)%((w'.map aq).length:Int)):=by rw [e'];rfl
    rw [this];rfl
 rintro _ ⟨p,rfl,hp,c,hc⟩;have LH:cV (f.map oD) (p:Int)=some (.int c):=by rw [fO (by omega),hc];rfl
 refine ⟨_,rfl,?_⟩;refine jO (λρ=>∃o,ρ= [o,some (bu f),some (ae p)]) D.int (λx=>!decide (x=c)) D.int (cx low m) _ [] _ (λx hx aE hI Y Nn hY hN=>?_) ⟨none,rfl⟩ (by rw [qU,nv];exact small (by omega)) λaE hI=>?_
 ·obtain ⟨o,rfl⟩:=hI
  exact ⟨_,rfl,_,rfl,_,rfl,_,LH,yu ⟨_,rfl,bB (λh=>⟨_,rfl,hY _ ⟨_,rfl⟩ h⟩) λh=>hN _ ⟨_,rfl⟩ h⟩⟩
 rw [qT]
 have op:0<((cx low m).filter λx=>!decide (x=c)).length:=by
  apply List.length_pos_iff.mpr;intro z
  have h0:∀x∈cx low m,x=c:=λx hx=>by
   apply Classical.byContradiction;intro ne
   have:x∈(cx low m).filter λx=>!decide (x=c):=uy.mpr ⟨hx,by simpa using ne⟩
   rw [z] at this;cases this
  have i0:=h0 (low+(0:Nat)-1) (dX.mpr ⟨0,cq.mpr (by omega),rfl⟩)
  have i1:=h0 (low+(1:Nat)-1) (dX.mpr ⟨1,cq.mpr (by omega),rfl⟩)
  omega
 generalize (cx low m).filter (λx=>!decide (x=c))=ot at op;have lo:(ot.map D.int).length=ot.length:=aV _;refine ⟨List.all_eq_true.mpr λd hd=>by obtain ⟨x,_,rfl⟩:=dX.mp hd;rfl,?_⟩
 refine ⟨_,rfl,_,rfl,ns,6,rfl,λv9=>⟨⟨by decide,by decide⟩,_,rfl,(by show (0:Int)<((ot.map D.int).length:Int);omega),?_⟩⟩
 obtain ⟨i,hi,il⟩:∃i:Nat,v9 / 14%((ot.map D.int).length:Int)=(i:Int)∧i<ot.length:=by
  have:=fk (v9 / 14) ((ot.map D.int).length:Int) (by omega)
  exact ⟨(v9 / 14%((ot.map D.int).length:Int)).toNat,by omega,by omega⟩
 have LI:cV (ot.map D.int) (v9 / 14%((ot.map D.int).length:Int))=some (.int (ot.getD i 0)):=by rw [hi];exact js il
 refine ⟨_,LI,rfl,?_⟩;generalize ot.getD i 0=dd;refine ⟨_,rfl,w',rfl,g,by omega,by omega,trivial,?_⟩
 refine ⟨_,rfl,eE _,?_⟩
 have few:∀L:List Nat,L.Pairwise (·<·)→(∀x,x∈L↔Cr w' (g7 f p dd) p x)→L.length≤100:=λL h1 h2=>by
  have:=aH (l:=L) (m:=List.range w'.length) (h1.imp λh=>cf h) λx hx=>cq.mpr (((h2 x).mp hx).lt g hp)
  rw [j9] at this;omega
 refine ⟨_,rfl,_,rfl,_,rfl,_,rfl,w',f,p,dd,rfl,g,by omega,hp,fl,λL p1 m1=>⟨_,rfl,bN _,?_⟩⟩
 refine ⟨_,rfl,_,rfl,_,rfl,_,rfl,w',f,p,dd,rfl,g,by omega,hp,fl,λL' p2 m2=>⟨_,rfl,bN _,?_⟩⟩
 obtain rfl:L'=L:=mE p2 p1 λx=>(m2 x).trans (m1 x).symm;have C1:=few L' p1 m1;refine ⟨_,rfl,_,rfl,L',rfl,C1,rfl,cD ⟨_,rfl,_,rfl,w6 ⟨_,rfl,IE (by simp) ?_⟩⟩⟩
 refine ⟨_,rfl,trivial,bI (by rw [aV];omega),?_⟩
 refine ⟨_,rfl,_,rfl,_,rfl,_,rfl,w',f,p,dd,rfl,g,by omega,hp,fl,λL3 p3 m3=>?_⟩
 obtain rfl:L3=L':=mE p3 p1 λx=>(m3 x).trans (m1 x).symm;refine ⟨_,rfl,L3,rfl,C1,true,rfl,b6 ⟨_,rfl,w',rfl,w',rfl,by omega,_,rfl,sQ ?_⟩⟩
 rw [decide_eq_true rfl];exact q
theorem all_mk{l:PySem.W.OpenLaw}{w:World}{K:PySem.W.Frag}{h:Heap}{mg:Str→Option Value}{fa C:Addr}{tk1:Tok}(X:K.In h)(G:h.Ns mainGlobals mg)(M0:mg "law"=some (.ref fa))
  {d0:Addr} {P5 Lw:Option Addr} {QA:Array (Option Value)} {PR OT Mj Qi Gd LZ:Value}
  {d1:Addr} {P6 Lx:Option Addr} {QB:Array (Option Value)} {PU OU Ml zZ Ge L0:Value}
  {d2:Addr} {P7 Ly:Option Addr} {B2:Array (Option Value)} {PV OV Mm BQ Gg L1:Value}
  {d3:Addr} {P8 Lz:Option Addr} {QC:Array (Option Value)} {PX OW Mn Qj Gh L4:Value}
  {d4:Addr} {P9 LA:Option Addr} {QD:Array (Option Value)} {PY OX Mo Qk Gi L5:Value}
  {d5:Addr} {Qa LB:Option Addr} {QE:Array (Option Value)} {PZ OY Mp Ql Gj L6:Value}
  {d6:Addr} {Qb LC:Option Addr} {QF:Array (Option Value)} {P0 OZ Mq Qm Gk L7:Value}
  {d7:Addr} {Qc LD:Option Addr} {QG:Array (Option Value)} {P1 O0 Mr Qn Gm L8:Value}
  {d8:Addr} {Qd LF:Option Addr} {QH:Array (Option Value)} {P2 O1 Ms Qo Gn L9:Value}
  {d9:Addr} {Qe LG:Option Addr} {QI:Array (Option Value)} {P4 O2 Mt Qp Gp Ma:Value}
  {Dy:Addr} {JC FY:Option Addr} {Kn:Array (Option Value)} {Jo IM GY JW Cs Gq:Value}
  {Dz:Addr} {JD FZ:Option Addr} {Ko:Array (Option Value)} {Jp IQ GZ JX Ct Gr:Value}
  {DB:Addr} {JE F0:Option Addr} {Kp:Array (Option Value)} {Jq IS G7 JY Cu Gs:Value}
  {DD:Addr} {JF F1:Option Addr} {Kq:Array (Option Value)} {Jr IT G9 JZ Cv Gu:Value}
  {DH:Addr} {JG F2:Option Addr} {Kr:Array (Option Value)} {Js IU Ha J0 Cw Gv:Value}
  {DJ:Addr} {JH F3:Option Addr} {Ks:Array (Option Value)} {Jt IV Hb J1 Cy Gw:Value}
  {DK:Addr} {JI F4:Option Addr} {Kt:Array (Option Value)} {Ju IW Hc J2 Cz Gx:Value}
  {DL:Addr} {JJ F5:Option Addr} {Ku:Array (Option Value)} {Jv IY Hd J3 CA Gy:Value}
  {DM:Addr} {JK F6:Option Addr} {Kv:Array (Option Value)} {Jw IZ He J4 CB Gz:Value}
  {DP:Addr} {JL F7:Option Addr} {Kw:Array (Option Value)} {Jx I0 Hf J5 CC GA:Value}
  {DQ:Addr} {JM F8:Option Addr} {Kx:Array (Option Value)} {Jy Ja Hg J6 CD GB:Value}
  {DR:Addr} {JN F9:Option Addr} {Ky:Array (Option Value)} {Jz Jb Hh J7 CF GC:Value}
  {DS:Addr} {JO Ga:Option Addr} {Kz:Array (Option Value)} {JA Jc Hi J8 CG GD:Value}
  {DU:Addr} {JP Gb:Option Addr} {KA:Array (Option Value)} {JB Jd Hj J9 CH GF:Value}
  {i0:Addr} {NU N6:Option Addr} {Ot:Array (Option Value)} {NO N0 Oc Oi IG Oz:Value}
  {i1:Addr} {NV N7:Option Addr} {Ou:Array (Option Value)} {NP N1 Od Oj IH OA:Value}
  {i2:Addr} {NW N8:Option Addr} {Ov:Array (Option Value)} {NQ N2 Oe Ol II OB:Value}
  {i3:Addr} {NX N9:Option Addr} {Ow:Array (Option Value)} {NR N3 Of Om IJ OC:Value}
  {i4:Addr} {NY Oa:Option Addr} {Ox:Array (Option Value)} {NS N4 Og Oo IK OD:Value}
  {i5:Addr} {NZ Ob:Option Addr} {Oy:Array (Option Value)} {NT N5 Oh Oq IL OE:Value}
  (gC:PySem.W.nsIn K mainGlobals "Web"=some (some (.ref C)))
  (a0:fi K "chain" d0)
  (l0:cX K "chain" "chain" pN d0 P5 Lw QA PR OT Mj Qi Gd LZ)
  (c0:PySem.W.codeIn K Gd "chain"=true)
  (k0:PySem.W.keepIn K (.ref d0)=true)
  (a1:fi K "is_among" d1)
  (l1:cX K "is_among" "is_among" ju d1 P6 Lx QB PU OU Ml zZ Ge L0)
  (c1:PySem.W.codeIn K Ge "is_among"=true)
  (k1:PySem.W.keepIn K (.ref d1)=true)
  (a2:fi K "alien_fault" d2)
  (l2:cX K "alien_fault" "alien_fault" gj d2 P7 Ly B2 PV OV Mm BQ Gg L1)
  (c2:PySem.W.codeIn K Gg "alien_fault"=true)
  (k2:PySem.W.keepIn K (.ref d2)=true)
  (a3:fi K "self_fault" d3)
  (l3:cX K "self_fault" "self_fault" hZ d3 P8 Lz QC PX OW Mn Qj Gh L4)
  (c3:PySem.W.codeIn K Gh "self_fault"=true)
  (k3:PySem.W.keepIn K (.ref d3)=true)
  (a4:fi K "twice_fault" d4)
  (l4:cX K "twice_fault" "twice_fault" gr d4 P9 LA QD PY OX Mo Qk Gi L5)
  (c4:PySem.W.codeIn K Gi "twice_fault"=true)
  (k4:PySem.W.keepIn K (.ref d4)=true)
  (a5:fi K "lone_fault" d5)
  (l5:cX K "lone_fault" "lone_fault" hV d5 Qa LB QE PZ OY Mp Ql Gj L6)
  (c5:PySem.W.codeIn K Gj "lone_fault"=true)
  (k5:PySem.W.keepIn K (.ref d5)=true)
  (a6:fi K "reached_from_first" d6)
  (l6:cX K "reached_from_first" "reached_from_first" bK d6 Qb LC QF P0 OZ Mq Qm Gk L7)
  (c6:PySem.W.codeIn K Gk "reached_from_first"=true)
  (k6:PySem.W.keepIn K (.ref d6)=true)
  (a7:fi K "apart_fault" d7)
  (l7:cX K "apart_fault" "apart_fault" gk d7 Qc LD QG P1 O0 Mr Qn Gm L8)
  (c7:PySem.W.codeIn K Gm "apart_fault"=true)
  (k7:PySem.W.keepIn K (.ref d7)=true)
  (a8:fi K "first_fault" d8)
  (l8:cX K "first_fault" "first_fault" gq d8 Qd LF QH P2 O1 Ms Qo Gn L9)
  (c8:PySem.W.codeIn K Gn "first_fault"=true)
  (k8:PySem.W.keepIn K (.ref d8)=true)
  (a9:fi K "_law_cell_at" d9)
  (l9:cX K "_law_cell_at" "_law_cell_at" fu d9 Qe LG QI P4 O2 Mt Qp Gp Ma)
  (c9:PySem.W.codeIn K Gp "_law_cell_at"=true)
  (k9:PySem.W.keepIn K (.ref d9)=true)
  (Lh:fi K "_law_reserve" Dy)
  (O4:cX K "_law_reserve" "_law_reserve" fw Dy JC FY Kn Jo IM GY JW Cs Gq)
  (LJ:PySem.W.codeIn K Cs "_law_reserve"=true)
  (OF:PySem.W.keepIn K (.ref Dy)=true)
  (Li:fi K "_law_draws" Dz)
  (O5:cX K "_law_draws" "_law_draws" hC Dz JD FZ Ko Jp IQ GZ JX Ct Gr)
  (LK:PySem.W.codeIn K Ct "_law_draws"=true)
  (OG:PySem.W.keepIn K (.ref Dz)=true)
  (Lj:fi K "_law_lands" DB)
  (O6:cX K "_law_lands" "_law_lands" hJ DB JE F0 Kp Jq IS G7 JY Cu Gs)
  (LL:PySem.W.codeIn K Cu "_law_lands"=true)
  (OH:PySem.W.keepIn K (.ref DB)=true)
  (Lk:fi K "_law_places" DD)
  (O7:cX K "_law_places" "_law_places" dR DD JF F1 Kq Jr IT G9 JZ Cv Gu)
  (LM:PySem.W.codeIn K Cv "_law_places"=true)
  (OI:PySem.W.keepIn K (.ref DD)=true)
  (Ll:fi K "_law_grown" DH)
  (O8:cX K "_law_grown" "_law_grown" eS DH JG F2 Kr Js IU Ha J0 Cw Gv)
  (LN:PySem.W.codeIn K Cw "_law_grown"=true)
  (OJ:PySem.W.keepIn K (.ref DH)=true)
  (Lm:fi K "_law_web" DJ)
  (O9:cX K "_law_web" "_law_web" jt DJ JH F3 Ks Jt IV Hb J1 Cy Gw)
  (LO:PySem.W.codeIn K Cy "_law_web"=true)
  (OK:PySem.W.keepIn K (.ref DJ)=true)
  (Ln:fi K "_law_named" DK)
  (Pa:cX K "_law_named" "_law_named" eU DK JI F4 Kt Ju IW Hc J2 Cz Gx)
  (LP:PySem.W.codeIn K Cz "_law_named"=true)
  (OL:PySem.W.keepIn K (.ref DK)=true)
  (Lo:fi K "_law_dyeing" DL)
  (Pb:cX K "_law_dyeing" "_law_dyeing" cL DL JJ F5 Ku Jv IY Hd J3 CA Gy)
  (LQ:PySem.W.codeIn K CA "_law_dyeing"=true)
  (OM:PySem.W.keepIn K (.ref DL)=true)
  (Lp:fi K "_law_chain" DM)
  (Pc:cX K "_law_chain" "_law_chain" g9 DM JK F6 Kv Jw IZ He J4 CB Gz)
  (LR:PySem.W.codeIn K CB "_law_chain"=true)
  (ON:PySem.W.keepIn K (.ref DM)=true)
  (Lq:fi K "_law_twisted" DP)
  (Pd:cX K "_law_twisted" "_law_twisted" dm DP JL F7 Kw Jx I0 Hf J5 CC GA)
  (LS:PySem.W.codeIn K CC "_law_twisted"=true)
  (OO:PySem.W.keepIn K (.ref DP)=true)
  (Lr:fi K "_law_whole" DQ)
  (Pe:cX K "_law_whole" "_law_whole" hU DQ JM F8 Kx Jy Ja Hg J6 CD GB)
  (LU:PySem.W.codeIn K CD "_law_whole"=true)
  (OP:PySem.W.keepIn K (.ref DQ)=true)
  (Ls:fi K "_law_dyes" DR)
  (Pf:cX K "_law_dyes" "_law_dyes" fQ DR JN F9 Ky Jz Jb Hh J7 CF GC)
  (LV:PySem.W.codeIn K CF "_law_dyes"=true)
  (OQ:PySem.W.keepIn K (.ref DR)=true)
  (Lu:fi K "_law_is_list" DS)
  (Pg:cX K "_law_is_list" "_law_is_list" dj DS JO Ga Kz JA Jc Hi J8 CG GD)
  (LW:PySem.W.codeIn K CG "_law_is_list"=true)
  (OR:PySem.W.keepIn K (.ref DS)=true)
  (FW:fi K "law" DU)
  (Ph:cX K "law" "law" pO DU JP Gb KA JB Jd Hj J9 CH GF)
  (LX:PySem.W.codeIn K CH "law"=true)
  (OS:PySem.W.keepIn K (.ref DU)=true)
  (m0:PySem.W.findIn K (.ref C) "__init__"=some (some (.ref i0)))
  (f0:PySem.W.isFn K (.ref i0)=true)
  (PD:cX K "__init__" "Web.__init__" cp i0 NU N6 Ot NO N0 Oc Oi IG Oz)
  (Pm:PySem.W.codeIn K IG "Web.__init__"=true)
  (Pu:PySem.W.keepIn K (.ref i0)=true)
  (m1:PySem.W.findIn K (.ref C) "many"=some (some (.ref i1)))
  (f1:PySem.W.isFn K (.ref i1)=true)
  (PF:cX K "many" "Web.many" mX i1 NV N7 Ou NP N1 Od Oj IH OA)
  (Pn:PySem.W.codeIn K IH "Web.many"=true)
  (Pw:PySem.W.keepIn K (.ref i1)=true)
  (m2:PySem.W.findIn K (.ref C) "turns"=some (some (.ref i2)))
  (f2:PySem.W.isFn K (.ref i2)=true)
  (PH:cX K "turns" "Web.turns" fP i2 NW N8 Ov NQ N2 Oe Ol II OB)
  (Po:PySem.W.codeIn K II "Web.turns"=true)
  (Px:PySem.W.keepIn K (.ref i2)=true)
  (m3:PySem.W.findIn K (.ref C) "ties"=some (some (.ref i3)))
  (f3:PySem.W.isFn K (.ref i3)=true)
  (PJ:cX K "ties" "Web.ties" mZ i3 NX N9 Ow NR N3 Of Om IJ OC)
  (Pp:PySem.W.codeIn K IJ "Web.ties"=true)
  (Py:PySem.W.keepIn K (.ref i3)=true)
  (m4:PySem.W.findIn K (.ref C) "tied"=some (some (.ref i4)))
  (f4:PySem.W.isFn K (.ref i4)=true)
  (PK:cX K "tied" "Web.tied" mY i4 NY Oa Ox NS N4 Og Oo IK OD)
  (Pq:PySem.W.codeIn K IK "Web.tied"=true)
  (Pz:PySem.W.keepIn K (.ref i4)=true)
  (m5:PySem.W.findIn K (.ref C) "behind"=some (some (.ref i5)))
  (f5:PySem.W.isFn K (.ref i5)=true)
  (PL:cX K "behind" "Web.behind" j4 i5 NZ Ob Oy NT N5 Oh Oq IL OE)
  (Pt:PySem.W.codeIn K IL "Web.behind"=true)
  (PB:PySem.W.keepIn K (.ref i5)=true)
  (Qg:PySem.W.plainGet K C Str.empty=true)
  (A7:PySem.W.hasDictIn K C=true)
  (Qq:PySem.W.plainOver K C=true)
  (Qy:PySem.W.findIn K (.ref C) "__setattr__"=some (some (.builtin "object.__setattr__")))
  (PC:PySem.W.makesIn K C=true)
  (O3:PySem.W.keepIn K (.ref C)=true)
  (nR:PySem.W.findIn K (.ref C) "rows"=some none)
  (LY:PySem.W.nsIn K mainGlobals "MOST_POINTS"=some (some (.int 14 tk1)))
  (K6:PySem.W.nsIn K mainGlobals "len"=some none)
  (Cf:PySem.W.nsIn K mainGlobals "range"=some none)
  (K7:PySem.W.nsIn K mainGlobals "max"=some none)
  (K8:PySem.W.nsIn K mainGlobals "min"=some none)
  (um:PySem.W.nsIn K mainGlobals "enumerate"=some none)
  (Lb:PySem.W.nsIn K mainGlobals "zip"=some none)
  (AG:PySem.W.nsIn K mainGlobals "sorted"=some none)
  (K4:PySem.W.nsIn K mainGlobals "all"=some none)
  (sy:PySem.W.nsIn K mainGlobals "isinstance"=some none)
  (K5:PySem.W.nsIn K mainGlobals "int"=some none)
  (FK:PySem.W.nsIn K mainGlobals "bool"=some none)
  (FL:PySem.W.nsIn K mainGlobals "list"=some none)
  (Cg:PySem.W.nsIn K mainGlobals "tuple"=some none)
  (La:PySem.W.nsIn K mainGlobals "sum"=some none)
  (vR:PySem.W.nsIn K mainGlobals "reversed"=some none)
  (K9:PySem.W.nsIn K mainGlobals "set"=some none)
  :∃fd:FuncData,(∀(s:Shared)(v:Value),BindsTo s fd ⟨[v],[]⟩ [("_law_script",v)])∧∀base:Heap,K.In base→base.Ns mainGlobals mg→FnOk l.prog w K mg base bS 40 fa fd ["_law_script"] (L2.lG K):=by
 have e:=M0.symm.trans (PySem.W.mg_of X G FW);cases e;have E0:=kT (st:=cp) PD Pm Pu;have e0:=E0.binds (ps:= ["self","turns"]) (λ_ _ _ _ _ _ _ hl=>by obtain ⟨_,_,rfl⟩:=L2.kZ hl;rfl)
 let Z:DC:=⟨K,C⟩
 let T:Txt Z mg:=⟨⟨PySem.W.mg_none_of X G K6,PySem.W.mg_none_of X G Cf,PySem.W.mg_none_of X G K7,PySem.W.mg_none_of X G K8,PySem.W.mg_none_of X G um,PySem.W.mg_none_of X G Lb,PySem.W.mg_none_of X G AG,PySem.W.mg_none_of X G K4,PySem.W.mg_none_of X G sy,PySem.W.mg_none_of X G K5,PySem.W.mg_none_of X G FK,PySem.W.mg_none_of X G FL,PySem.W.mg_none_of X G Cg,PySem.W.mg_none_of X G La,PySem.W.mg_none_of X G vR⟩,PySem.W.mg_none_of X G K9, .of X G a0 l0 c0 k0 (λ_ _ _ _ _ _ _ hl=>by obtain ⟨_,_,_,_,rfl⟩:=L2.zy hl;rfl), .of X G a1 l1 c1 k1 (λ_ _ _ _ _ _ _ hl=>by obtain ⟨_,_,rfl⟩:=L2.kZ hl;rfl), .of X G a2 l2 c2 k2 (λ_ _ _ _ _ _ _ hl=>by obtain ⟨_,rfl⟩:=L2.fD hl;rfl), .of X G a3 l3 c3 k3 (λ_ _ _ _ _ _ _ hl=>by obtain ⟨_,rfl⟩:=L2.fD hl;rfl), .of X G a4 l4 c4 k4 (λ_ _ _ _ _ _ _ hl=>by obtain ⟨_,rfl⟩:=L2.fD hl;rfl), .of X G a5 l5 c5 k5 (λ_ _ _ _ _ _ _ hl=>by obtain ⟨_,rfl⟩:=L2.fD hl;rfl), .of X G a6 l6 c6 k6 (λ_ _ _ _ _ _ _ hl=>by obtain ⟨_,rfl⟩:=L2.fD hl;rfl), .of X G a7 l7 c7 k7 (λ_ _ _ _ _ _ _ hl=>by obtain ⟨_,rfl⟩:=L2.fD hl;rfl), .of X G a8 l8 c8 k8 (λ_ _ _ _ _ _ _ hl=>by obtain ⟨_,rfl⟩:=L2.fD hl;rfl), .of X G a9 l9 c9 k9 (λ_ _ _ _ _ _ _ hl=>by obtain ⟨_,_,rfl⟩:=L2.kZ hl;rfl), .of X G Lh O4 LJ OF (λ_ _ _ _ _ _ _ hl=>by obtain ⟨_,_,rfl⟩:=L2.kZ hl;rfl), .of X G Li O5 LK OG (λ_ _ _ _ _ _ _ hl=>by obtain ⟨_,_,_,rfl⟩:=L2.tM hl;rfl), .of X G Lj O6 LL OH (λ_ _ _ _ _ _ _ hl=>by obtain ⟨_,rfl⟩:=L2.fD hl;rfl), .of X G Lk O7 LM OI (λ_ _ _ _ _ _ _ hl=>by obtain ⟨_,_,rfl⟩:=L2.kZ hl;rfl), .of X G Ll O8 LN OJ (λ_ _ _ _ _ _ _ hl=>by obtain ⟨_,_,_,rfl⟩:=L2.tM hl;rfl), .of X G Lm O9 LO OK (λ_ _ _ _ _ _ _ hl=>by obtain ⟨_,rfl⟩:=L2.fD hl;rfl), .of X G Ln Pa LP OL (λ_ _ _ _ _ _ _ hl=>by obtain ⟨_,_,rfl⟩:=L2.kZ hl;rfl), .of X G Lo Pb LQ OM (λ_ _ _ _ _ _ _ hl=>by obtain ⟨_,_,_,_,rfl⟩:=L2.zy hl;rfl), .of X G Lp Pc LR ON (λ_ _ _ _ _ _ _ hl=>by obtain ⟨_,_,_,_,rfl⟩:=L2.zy hl;rfl), .of X G Lq Pd LS OO (λ_ _ _ _ _ _ _ hl=>by obtain ⟨_,_,rfl⟩:=L2.kZ hl;rfl), .of X G Lr Pe LU OP (λ_ _ _ _ _ _ _ hl=>by obtain ⟨_,rfl⟩:=L2.fD hl;rfl), .of X G Ls Pf LV OQ (λ_ _ _ _ _ _ _ hl=>by obtain ⟨_,rfl⟩:=L2.fD hl;rfl), .of X G Lu Pg LW OR (λ_ _ _ _ _ _ _ hl=>by obtain ⟨_,_,rfl⟩:=L2.kZ hl;rfl), .of X G FW Ph LX OS (λ_ _ _ _ _ _ _ hl=>by obtain ⟨_,rfl⟩:=L2.fD hl;rfl),⟨⟨Qg,A7,Qq,Qy⟩,nR⟩,PySem.W.mg_of X G gC,i0,_,E0,⟨PC,m0,f0,O3⟩,e0, .of m1 f1 PF Pn Pw (λ_ _ _ _ _ _ _ hl=>by obtain ⟨_,rfl⟩:=L2.fD hl;rfl), .of m2 f2 PH Po Px (λ_ _ _ _ _ _ _ hl=>by obtain ⟨_,rfl⟩:=L2.fD hl;rfl), .of m3 f3 PJ Pp Py (λ_ _ _ _ _ _ _ hl=>by obtain ⟨_,rfl⟩:=L2.fD hl;rfl), .of m4 f4 PK Pq Pz (λ_ _ _ _ _ _ _ hl=>by obtain ⟨_,_,_,rfl⟩:=L2.tM hl;rfl), .of m5 f5 PL Pt PB (λ_ _ _ _ _ _ _ hl=>by obtain ⟨_,_,_,rfl⟩:=L2.tM hl;rfl),⟨tk1,PySem.W.mg_of X G LY⟩⟩
 exact ⟨_,λs v=> .of_eq rfl,λbase _ _=>(((Bv (P:=l.prog) (w:=w) (base:=base) T).mono (by decide)).imp (L2.Bl (Z:=Z)))⟩
theorem walk{l:PySem.W.OpenLaw}{q:Program}{loose:List Str}{XP:(Str→Option Value)→Heap→Prop}{YP:World→Heap→Prop}{d:DefRec}{K:Params→PySem.W.Frag}(hn:l.most=some 63)(uU:d.params.defaults= [])
  (hY:∀(w:World)(h:Heap),YP w h→(K w.params).In h)
  (F:∀(w:World)(mg:Str→Option Value)(fa:Addr)(h:Heap),(K w.params).In h→h.Ns mainGlobals mg→mg d.name=some (.ref fa)→
   ∃fd:FuncData,(∀(s:Shared)(u:Value),BindsTo s fd ⟨[u],[]⟩ [("_law_script",u)])∧∀base:Heap,(K w.params).In base→base.Ns mainGlobals mg→FnOk l.prog w (K w.params) mg base bS 40 fa fd ["_law_script"] (lG (K w.params))):
  PySem.W.WalkO q loose XP YP l.row.toRowW d [] (λf vs=>PySem.call f vs):=L2.FI 40 (by decide) hn uU hY F
end yb
def PySem.W.Fast.tw8751223953885274849:Nat:=0
def PySem.W.Fast.tw10449600971307966823:Nat:=0
def PySem.W.Fast.tw14508087200196882569:Nat:=0
def PySem.W.Fast.tw14294239216289234821:Nat:=0
def PySem.W.Fast.tw10220674700114846826:Nat:=0
def PySem.W.Fast.tw18356119926903679271:Nat:=0
def PySem.W.Fast.tw11016858371415297227:Nat:=0
def PySem.W.Fast.tw11971299892495404195:Nat:=0
def PySem.W.Fast.tw9703955010620723050:Nat:=0
def PySem.W.Fast.tw10516722994286688811:Nat:=0
def PySem.W.Fast.tw4493638816534335285:Nat:=0
def PySem.W.Fast.tw6403780351713564271:Nat:=0
def PySem.W.Fast.tw13305818079897163936:Nat:=0
def PySem.W.Fast.tw7655139875292410042:Nat:=0
def PySem.W.Fast.tw12284189230119464800:Nat:=0
def PySem.W.Fast.tw3096691314824125668:Nat:=0
def PySem.W.Fast.tw6280079655886340910:Nat:=0
def PySem.W.Fast.tw9593182612758913474:Nat:=0
def PySem.W.Fast.tw8951490631338040839:Nat:=0
def PySem.W.Fast.tw16129490968334709117:Nat:=0
def PySem.W.Fast.tw6798042449184020431:Nat:=0
def PySem.W.Fast.tw7749711406037252073:Nat:=0
def PySem.W.Fast.tw6208016341991121301:Nat:=0
def PySem.W.Fast.tw3813398579171528318:Nat:=0
def PySem.W.Fast.tw12180470535090802152:Nat:=0
def PySem.W.Fast.tw11851697571336095079:Nat:=0
def PySem.W.Fast.tw2887191674442790964:Nat:=0
def PySem.W.Fast.tw10529824609844177152:Nat:=0
def PySem.W.Fast.tw9433722244980778179:Nat:=0
def PySem.W.Fast.tw10053424721496789634:Nat:=0
def PySem.W.Fast.tw5093926540445266317:Nat:=0
def PySem.W.Fast.tw14091842727228054479:Nat:=0
def PySem.W.Fast.tw11548447945490830237:Nat:=0
def PySem.W.Fast.tw8908709229108888997:Nat:=0
def PySem.W.Fast.tw6827744010356631694:Nat:=0
def PySem.W.Fast.tw3728707208653019040:Nat:=0
def PySem.W.Fast.tw13710374269368487948:Nat:=0
def PySem.W.Fast.tw12101096711666562482:Nat:=0
def PySem.W.Fast.tw16674753385188285794:Nat:=0
def PySem.W.Fast.tw15624041056410287657:Nat:=0
def PySem.W.Fast.tw16032475367678946889:Nat:=0
def PySem.W.Fast.tw5796616025125394774:Nat:=0
def PySem.W.Fast.tw16297168605201114691:Nat:=0
def PySem.W.Fast.tw11092273742801295902:Nat:=0
def PySem.W.Fast.tw79239986502815759:Nat:=0
def PySem.W.Fast.tw18190030554301365397:Nat:=0
def PySem.W.Fast.tw4873995418160498166:Nat:=0
def PySem.W.Fast.tw4505436228601255031:Nat:=0
def PySem.W.Fast.tw1762442181762563397:Nat:=0
def PySem.W.Fast.tw1336047699819317239:Nat:=0
def PySem.W.Fast.tw5159987585368139333:Nat:=0
def PySem.W.Fast.tw5934675351142110464:Nat:=0
def PySem.W.Fast.tw11146264010277928590:Nat:=0
def PySem.W.Fast.tw933260183934251157:Nat:=0
def PySem.W.Fast.tw17243493269758681:Nat:=0
def PySem.W.Fast.tw14123535668986997939:Nat:=0
def PySem.W.Fast.tw5394955802944737504:Nat:=0
def PySem.W.Fast.tw11453992894464850403:Nat:=0
def PySem.W.Fast.tw11180787287707372193:Nat:=0
def PySem.W.Fast.tw11203228282262986012:Nat:=0
def PySem.W.Fast.tw4042377283907931316:Nat:=0
def PySem.W.Fast.tw11806875959184846499:Nat:=0
def PySem.W.Fast.tw16078930373816370071:Nat:=0
def PySem.W.Fast.tw13597620098896912719:Nat:=0
def PySem.W.Fast.tw14919632982325096328:Nat:=0
def PySem.W.Fast.tw10538723113385089572:Nat:=0
def PySem.W.Fast.tw3799572018605729623:Nat:=0
def PySem.W.Fast.tw12380711942962098900:Nat:=0
def PySem.W.Fast.tw9677688500861907757:Nat:=0
def PySem.W.Fast.tw3992993399695281218:Nat:=0
def PySem.W.Fast.tw9766653525317558034:Nat:=0
def PySem.W.Fast.tw13153336905393730742:Nat:=0
def PySem.W.Fast.tw10347876263908726992:Nat:=0
open PySem PySem.W PyProof.Rows
set_option maxRecDepth 100000 in
set_option maxHeartbeats 0 in
theorem PySem.Challenge.cw_mapdye_k51_chains_holds : PySem.Challenge.rw_mapdye_k51_chains.Holds := by
 w_on;o_law;k_head;(case hw=>w_witness2)
 k_fill
 refine yb.walk (l:=PySem.Challenge.rw_mapdye_k51_chains) rfl rfl (λw h Y=>PySem.W.kIn_of Y) ?F
 case F=>
  intro w mg fa h KX G uZ
  refine' yb.all_mk KX G uZ ?_ ?_ ?_ ?_ ?_ ?_ ?_ ?_ ?_ ?_ ?_ ?_ ?_ ?_ ?_ ?_ ?_ ?_ ?_ ?_ ?_ ?_ ?_ ?_ ?_ ?_ ?_ ?_ ?_ ?_ ?_ ?_ ?_ ?_ ?_ ?_ ?_ ?_ ?_ ?_ ?_ ?_ ?_ ?_ ?_ ?_ ?_ ?_ ?_ ?_ ?_ ?_ ?_ ?_ ?_ ?_ ?_ ?_ ?_ ?_ ?_ ?_ ?_ ?_ ?_ ?_ ?_ ?_ ?_ ?_ ?_ ?_ ?_ ?_ ?_ ?_ ?_ ?_ ?_ ?_ ?_ ?_ ?_ ?_ ?_ ?_ ?_ ?_ ?_ ?_ ?_ ?_ ?_ ?_ ?_ ?_ ?_ ?_ ?_ ?_ ?_ ?_ ?_ ?_ ?_ ?_ ?_ ?_ ?_ ?_ ?_ ?_ ?_ ?_ ?_ ?_ ?_ ?_ ?_ ?_ ?_ ?_ ?_ ?_ ?_ ?_ ?_ ?_ ?_ ?_ ?_ ?_ ?_ ?_ ?_ ?_ ?_ ?_ ?_ ?_ ?_ ?_ ?_ ?_ ?_ ?_ ?_ ?_ ?_ ?_ ?_
  all_goals (try (show _=_;k_is))
