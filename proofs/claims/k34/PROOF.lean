import PyProof.Rows.All
import Wide.All
import OpenK.AllK
import Wide.FinOn
import Lean
import PyProof.EqAt
import PyProof.EqKinds
import PyProof.TupleCall
import KE.KSortTup
import PyProof.NeKinds
import PyProof.SetKind
import PyProof.SetRoads
import PyProof.SetNew
import PyProof.WalksS
import PyProof.CollectWalk
import KE.KRevIter
import PyProof.FitsBits
import PyProof.P3Eq
import PyProof.ListRange
import PyProof.MeetsSeq
import PySem.Challenge.RW_mapdye_k34_whole_rings_led_down
set_option Elab.async false
set_option linter.all false
set_option maxRecDepth 100000
abbrev aS:= @List.getD_eq_getElem?_getD
abbrev bA:= @List.getElem?_eq_getElem
abbrev aK:= @List.length_map
abbrev b9:= @List.length_append
abbrev cI:= @List.mem_cons_of_mem
abbrev eO:= @List.getElem?_eq_some_iff
abbrev cB:= @List.mem_cons_self
abbrev bx:= @Nat.le_refl
abbrev dA:= @Array.length_toList
abbrev fE:= @List.mem_append_right
abbrev bH:= @List.mem_range
abbrev eB:= @List.getElem?_append_left
abbrev b8:= @List.size_toArray
abbrev cm:= @List.length_take
abbrev cN:= @Bool.false_ne_true
abbrev cv:= @List.mem_append
abbrev fZ:= @List.getElem?_append_right
abbrev bQ:= @Nat.ne_of_lt
abbrev dh:= @List.length_cons
abbrev cn:= @List.mem_cons
abbrev fb:= @List.mem_append_left
abbrev gN:= @List.idxOf_lt_length_iff
abbrev dr:= @List.map_append
abbrev fK:= @List.mem_iff_getElem
abbrev f6:= @Array.getElem?_toList
abbrev fc:= @List.getElem?_map
abbrev fe:= @List.nodup_append
abbrev cw:= @Nat.zero_le
abbrev gd:= @List.mem_of_getElem?
abbrev fL:= @List.mem_singleton
abbrev gO:= @List.take_append_drop
abbrev fw:= @List.length_drop
abbrev gf:= @Nat.lt_of_lt_of_le
abbrev hE:= @Array.toList_append
abbrev iU:= @List.getElem_idxOf
abbrev fg:= @List.mem_map
abbrev hJ:= @List.append_nil
abbrev hU:= @List.nodup_cons
abbrev ji:= @List.length_range
abbrev kP:= @List.getD_cons_succ
abbrev qv:= @List.drop_eq_getElem_cons
abbrev gP:= @Nat.lt_irrefl
abbrev gh:= @List.map_map
abbrev kQ:= @Bool.false_eq_true
abbrev n6:= @List.getElem?_eq_none
abbrev kR:= @List.append_assoc
abbrev kS:= @List.pairwise_map
abbrev su:= @Array.getElem?_eq_getElem
abbrev qw:= @List.getElem?_set_self
abbrev iV:= @List.map_cons
abbrev sA:= @List.getElem?_take_of_lt
abbrev sC:= @List.getElem?_cons_succ
abbrev vz:= @List.perm_ext_iff_of_nodup
abbrev kT:= @List.length_set
abbrev kU:= @List.mem_filter
abbrev mM:= @Nat.mod_eq_of_lt
abbrev qx:= @List.length_reverse
abbrev jj:= @Nat.sub_self
abbrev kW:= @List.nodup_nil
abbrev mN:= @List.nil_append
abbrev qy:= @List.getElem?_drop
abbrev n9:= @Nat.le_of_not_lt
abbrev oe:= @List.mem_reverse
abbrev vA:= @List.take_of_length_le
abbrev vB:= @List.drop_eq_nil_of_le
abbrev vC:= @List.length_singleton
abbrev kX:= @Nat.le_trans
abbrev qz:= @List.lookup_cons
abbrev qA:= @List.getElem_mem
abbrev mO:= @List.map_take
abbrev mP:= @List.map_drop
abbrev vD:= @List.getElem?_of_mem
abbrev sD:= @List.flatMap_cons
abbrev sE:= @List.getElem?_set
abbrev qB:= @List.length_nil
abbrev Cj:= @Array.getD_eq_getD_getElem?
abbrev vE:= @List.replicate_succ
abbrev vF:= @List.reverse_append
abbrev vG:= @List.length_pos_iff
abbrev Ck:= @Array.getElem?_eq_some_iff
abbrev yy:= @List.length_replicate
abbrev mQ:= @Nat.le_succ
abbrev yz:= @List.getElem?_set_ne
abbrev vH:= @List.reverse_cons
abbrev vI:= @Array.toList_push
abbrev vJ:= @Int.toNat_natCast
abbrev Cm:= @List.length_eq_zero_iff
abbrev yA:= @List.filterMap_cons
abbrev vK:= @Bool.and_eq_true
abbrev Cn:= @List.length_pos_of_mem
abbrev yB:= @Array.size_extract
abbrev Co:= @List.concat_eq_append
abbrev Ft:= @Array.perm_iff_toList_perm
abbrev Fu:= @List.nodup_iff_pairwise_ne
abbrev yC:= @List.flatten_cons
abbrev yD:= @Nat.lt_succ_of_lt
abbrev yE:= @Bool.eq_false_iff
abbrev yF:= @List.getElem_take
abbrev og:= @Nat.mod_lt
abbrev Cp:= @Array.toList_reverse
abbrev vv:= @List.mem_of_mem_take
abbrev Ax:= @List.pairwise_iff_getElem
abbrev mK:= @Nat.le_of_lt
abbrev mL:= @Nat.zero_add
abbrev kF:= @List.nodup_range
abbrev rE:= @List.not_mem_nil
abbrev Ay:= @List.set_eq_of_length_le
abbrev Az:= @List.getElem?_replicate
abbrev rF:= @List.idxOf_cons
abbrev AA:= @Array.getElem?_eq_none
abbrev AB:= @List.eq_nil_or_concat
abbrev fj:= @List.perm_append_comm
abbrev AD:= @List.getElem?_range
abbrev AE:= @List.map_congr_left
abbrev AF:= @List.flatMap_append
abbrev rG:= @Nat.mod_self
abbrev vw:= @Bool.false_and
abbrev vx:= @List.take_zero
abbrev vy:= @Bool.xor_false
namespace L2
open PySem PySem.Spec PyProof.Rows
abbrev Key:=Sum Int Str
def Iq:Key→Value→Bool
 | .inl k,v=>Value.isInt k v
 | .inr x,v=>Value.isStrOf x v
def S9(w:World):Key→Int
 | .inl k=>hashInt k
 | .inr x=>hashStr w x
theorem cA:∀{k:Key}{v:Value},Iq k v=true→(∃i t,k=Sum.inl i∧v=Value.int i t)∨(∃x t,k=Sum.inr x∧v=Value.str x t)
 | .inl i,v,h=>by
  obtain ⟨t,e⟩:=Value.isInt_shape (k:=i) (v:=v) h;exact .inl ⟨i,t,rfl,e⟩
 | .inr x,v,h=>by
  obtain ⟨t,e⟩:=Value.isStrOf_shape (x:=x) (v:=v) h;exact .inr ⟨x,t,rfl,e⟩
theorem KJ(a b:Int):decide ((Sum.inl a:Key)=Sum.inl b)=(a==b):=by
 by_cases e:a=b
 ·subst e;simp
 ·have h:¬(Sum.inl a:Key)=Sum.inl b:=λq=>e (Sum.inl.inj q)
  rw [decide_eq_false h];exact (beq_eq_false_iff_ne.mpr e).symm
theorem KP(a b:Str):decide ((Sum.inr a:Key)=Sum.inr b)=decide (a=b):=by
 by_cases e:a=b
 ·subst e;simp
 ·have h:¬(Sum.inr a:Key)=Sum.inr b:=λq=>e (Sum.inr.inj q)
  rw [decide_eq_false h,decide_eq_false e]
theorem KL(a:Int)(b:Str):decide ((Sum.inl a:Key)=Sum.inr b)=false:=decide_eq_false (λq=>nomatch q)
theorem KO(a:Str)(b:Int):decide ((Sum.inr a:Key)=Sum.inl b)=false:=decide_eq_false (λq=>nomatch q)
def uA(prog:Program)(w:World):PySem.KeyKind prog w Key where
 is:=Iq
 hash:=S9 w
 inj:=λv a b ha hb=>by
  rcases cA ha with ⟨i,t,rfl,rfl⟩ | ⟨x,t,rfl,rfl⟩
  ·rcases cA hb with ⟨j,u,rfl,e⟩ | ⟨y,u,rfl,e⟩
   ·injection e with e1 _;rw [e1]
   ·exact nomatch e
  ·rcases cA hb with ⟨j,u,rfl,e⟩ | ⟨y,u,rfl,e⟩
   ·exact nomatch e
   ·injection e with e1 _;rw [e1]
 byValue:=λk v h=>by
  rcases cA h with ⟨i,t,rfl,rfl⟩ | ⟨x,t,rfl,rfl⟩<;>rfl
 pyHash:=λhv h=>by
  rcases cA hv with ⟨i,t,rfl,rfl⟩ | ⟨x,t,rfl,rfl⟩
  ·exact wpAny_pyHash_int h
  ·exact wpAny_pyHash_str h
 eqBool:=λhu hv h=>by
  rcases cA hu with ⟨i,t,rfl,rfl⟩ | ⟨x,t,rfl,rfl⟩
  ·rcases cA hv with ⟨j,u,rfl,rfl⟩ | ⟨y,u,rfl,rfl⟩
   ·rw [KJ] at h;exact wpAny_eqBool_int h
   ·rw [KL] at h;exact SeqAt.EqAt.int_str i t y u _ _ _ _ h
  ·rcases cA hv with ⟨j,u,rfl,rfl⟩ | ⟨y,u,rfl,rfl⟩
   ·rw [KO] at h;exact SeqAt.EqAt.str_int x t j u _ _ _ _ h
   ·rw [KP] at h;exact wpAny_eqBool_str h
 «strs»:=λk x t v h=>by
  rcases cA h with ⟨i,u,rfl,e⟩ | ⟨y,u,rfl,e⟩
  ·exact nomatch e
  ·injection e with e1 _
   subst e1;cases v<;>rfl
inductive V where
 |bf|bl (b:Bool) |int (i:Int) |str (x:Str) |Fx (b:Array UInt8) |CK (b:UInt64) |ref (a:Addr) |ty (n:String)
 deriving DecidableEq
def RelV:V→Value→Prop
 | .bf,u=>u=Value.none
 | .bl b,u=>u=Value.bool b
 | .int i,u=>∃t,u=Value.int i t
 | .str x,u=>∃t,u=Value.str x t
 | .Fx b,u=>∃t,u=Value.bytes b t
 | .CK b,u=>∃t,u=Value.float b t
 | .ref a,u=>u=Value.ref a
 | .ty n,u=>u=Value.type n
abbrev Vals:List V→List Value→Prop:=Paired RelV
theorem Vals.length{xs:List V}{us:List Value}(r:Vals xs us):xs.length=us.length:=Paired.length r
theorem Vals.get:∀{xs:List V}{us:List Value}{i:Nat}{x:V},Vals xs us→xs[i]? =some x→∃u,us[i]? =some u∧RelV x u
 |_,_,_,_, .nil,e=>by simp at e
 |_,_,0,_, .cons r _,e=>by simp at e;subst e;exact ⟨_,rfl,r⟩
 |_,_,i+1,x, .cons _ t,e=>by
  obtain ⟨u,h1,h2⟩:=Vals.get (i:=i) (x:=x) t (by simpa using e)
  exact ⟨u,by simpa using h1,h2⟩
theorem Vals.set{x:V}{u:Value}(r:RelV x u):∀{xs:List V}{us:List Value}(i:Nat),Vals xs us→Vals (xs.set i x) (us.set i u)
 |_,_,_, .nil=> .nil
 |_,_,0, .cons _ t=> .cons r t
 |_,_,i+1, .cons q t=> .cons q (Vals.set r i t)
theorem Vals.append:∀{xs ys:List V}{us ws:List Value},Vals xs us→Vals ys ws→Vals (xs++ys) (us++ws)
 |_,_,_,_, .nil,s=>s
 |_,_,_,_, .cons r t,s=> .cons r (Vals.append t s)
theorem Vals.take:∀{xs:List V}{us:List Value}(n:Nat),Vals xs us→Vals (xs.take n) (us.take n)
 |_,_,0,_=> .nil
 |_,_,_+1, .nil=> .nil
 |_,_,n+1, .cons r t=> .cons r (Vals.take n t)
theorem Vals.drop:∀{xs:List V}{us:List Value}(n:Nat),Vals xs us→Vals (xs.drop n) (us.drop n)
 |_,_,0,r=>r
 |_,_,_+1, .nil=> .nil
 |_,_,n+1, .cons _ t=>Vals.drop n t
def nK:Option V→Option Value→Prop
 |some v,some u=>RelV v u
 |none,none=>True
 |_,_=>False
def KV{κ:Type}:List (κ×V)→List (κ×Value)→Prop:=Paired λ(p:κ×V)(q:κ×Value)=>p.1=q.1∧RelV p.2 q.2
def kV:Key→V
 | .inl i=> .int i
 | .inr x=> .str x
inductive HO where
 |lst (xs:List V)
 |tup (xs:List V)
 |dK (dN:List (Key×V)) |dT (dN:List (List Key×V))
 |set (S:Int→Bool) (n:Nat)
 |ins (C dx:Addr) (fs:List (Str×V))
 |own (x:Addr)
 |xd (fs:List (Str×V))
 |met (f x:Addr)
 |rng (lo hi:Int)
 |pG (o:Obj) (u:HO)
 |Eg (ps:Array Value)
 |ext (φ:Heap→Prop)
abbrev Hp:=Addr→Option HO
def upd(H:Hp)(a:Addr)(o:HO):Hp:=λb=>if b=a then some o else H b
theorem ax{H:Hp}{a:Addr}{o:HO}:upd H a o a=some o:=by unfold upd;rw [if_pos rfl]
theorem aF{H:Hp}{a b:Addr}{o:HO}(h:b≠a):upd H a o b=H b:=by unfold upd;rw [if_neg h]
theorem aW{H:Hp}{a b:Addr}{o:HO}(h:H a=some o)(h':H b=none):a≠b:=by
 intro e;subst e;rw [h] at h';cases h'
section
variable (P:Program) (w:World)
def cV(H:Hp)(h:Heap)(a:Addr):HO→Prop
 | .lst xs=>xs.length≤sizeLine∧∃(its:List Value)(n:Nat),Vals xs its∧h.get? a=some {cls:= .type "list",data:= .seq its.toArray n}
 | .tup xs=>xs.length≤sizeLine∧∃its:List Value,Vals xs its∧IsTup h a its.toArray
 | .dK dN=>dN.length≤sizeLine∧(a==sysModules)=false∧∃vs,KV dN vs∧h.DictOf (uA P w) a vs
 | .dT dN=>dN.length≤sizeLine∧(a==sysModules)=false∧∃xs:List (List Key×Addr×Value),
   Paired (λ(p:List Key×V)(q:List Key×Addr×Value)=>p.1=q.1∧H q.2.1=some (.tup (p.1.map kV))∧RelV p.2 q.2.2) dN xs∧
   ∃o es ep,h.get? a=some o∧o.ExactDict∧o.data= .dict es ep∧es.toList=xs.map (entryOfKey (tupleKind (uA P w)))∧(xs.map (·.1)).Nodup
 | .set S n=>h.SetOf (intKind P w) a S n
 | .ins C dx fs=>H dx=some (.own a)∧fs.length≤1000∧dx≠a∧h.get? a=some (PySem.W.instObj C dx)∧
   ∃mA,h.Ns1 dx mA∧(∀f,nK (fs.lookup f) (mA f))∧PySem.Within mA (fs.map (·.1))
 | .own _=>∃o,h.get? a=some o
 | .xd fs=>∃mA,h.Ns1 a mA∧∀f,nK (fs.lookup f) (mA f)
 | .rng lo hi=>∃t u v,h.get? a=some {cls:= .type "range",data:= .fields #[.int lo t, .int hi u, .int 1 v]}
 | .pG o u=>h.get? a=some o∧cV H h a u
 | .Eg ps=>h.get? a=some {cls:= .none,data:= .fields ps}
 | .met f x=>h.get? a=some (PySem.W.methodObj (.ref f) (.ref x))
 | .ext φ=>φ h∧(∃o,h.get? a=some o)∧∀h1 h2:Heap,φ h1→(∀o,h1.get? a=some o→h2.get? a=some o)→φ h2
def hV(H:Hp)(h:Heap):Prop:=∀a o,H a=some o→cV P w H h a o
end
section
variable {P:Program} {w:World} {H H':Hp} {h h':Heap} {a:Addr} {o:HO}
theorem cV.lt(x:cV P w H h a o):a<h.objs.size:=by
 cases o with
 |lst xs=>obtain ⟨_,_,_,_,e⟩:=x;exact Heap.lt_size e
 |tup xs=>obtain ⟨_,_,_,p⟩:=x;exact p.lt
 |dK dN=>obtain ⟨_,_,_,_,o,_,_,e,_⟩:=x;exact Heap.lt_size e
 |dT dN=>obtain ⟨_,_,_,_,o,_,_,e,_⟩:=x;exact Heap.lt_size e
 |set S n=>obtain ⟨o,_,_,_,e,_⟩:=x;exact Heap.lt_size e
 |ins C dx fs=>obtain ⟨_,_,_,e,_⟩:=x;exact Heap.lt_size e
 |own y=>obtain ⟨_,e⟩:=x;exact Heap.lt_size e
 |xd fs=>obtain ⟨_,⟨_,_,_,e,_⟩,_⟩:=x;exact Heap.lt_size e
 |rng lo hi=>obtain ⟨_,_,_,e⟩:=x;exact Heap.lt_size e
 |pG ob u=>obtain ⟨e,_⟩:=x;exact Heap.lt_size e
 |Eg ps=>exact Heap.lt_size (show h.get? a=some _ from x)
 |met f y=>exact Heap.lt_size (show h.get? a=some _ from x)
 |ext φ=>obtain ⟨_,⟨_,e⟩,_⟩:=x;exact Heap.lt_size e
theorem Paired.MF{α β:Type}{F G:α→β→Prop}:∀{l₁:List α}{l₂:List β},Paired F l₁ l₂→(∀a b,F a b→G a b)→Paired G l₁ l₂
 |_,_, .nil,_=> .nil
 |_,_, .cons r t,f=> .cons (f _ _ r) (Paired.MF t f)
theorem cV.r9(x:cV P w H h a o)(k:∀b u,(b=a∨H b=some (.own a))→h.get? b=some u→h'.get? b=some u)
  (ho:∀b,H b=some (.own a)→H' b=some (.own a)) (ht:∀b xs,H b=some (.tup xs)→H' b=some (.tup xs)):cV P w H' h' a o:=by
 induction o with
 |lst xs=>obtain ⟨z,its,n,r,e⟩:=x;exact ⟨z,its,n,r,k _ _ (.inl rfl) e⟩
 |tup xs=>obtain ⟨z,its,r,ob,e,c⟩:=x;exact ⟨z,its,r,ob,k _ _ (.inl rfl) e,c⟩
 |dK dN=>obtain ⟨z,y,vs,r,ob,es,ep,e,c⟩:=x;exact ⟨z,y,vs,r,ob,es,ep,k _ _ (.inl rfl) e,c⟩
 |dT dN=>
  obtain ⟨z,y,xs,r,ob,es,ep,e,c⟩:=x;exact ⟨z,y,xs,Paired.MF r λp q z=>⟨z.1,ht _ _ z.2.1,z.2.2⟩,ob,es,ep,k _ _ (.inl rfl) e,c⟩
 |set S n=>obtain ⟨ob,es,ep,t,e,c⟩:=x;exact ⟨ob,es,ep,t,k _ _ (.inl rfl) e,c⟩
 |ins C dx fs=>
  obtain ⟨d,z,ne,e,mA,⟨od,es,ep,e2,c⟩,r⟩:=x;exact ⟨ho _ d,z,ne,k _ _ (.inl rfl) e,mA,⟨od,es,ep,k _ _ (.inr d) e2,c⟩,r⟩
 |own y=>obtain ⟨ob,e⟩:=x;exact ⟨ob,k _ _ (.inl rfl) e⟩
 |xd fs=>obtain ⟨mA,⟨od,es,ep,e,c⟩,r⟩:=x;exact ⟨mA,⟨od,es,ep,k _ _ (.inl rfl) e,c⟩,r⟩
 |rng lo hi=>obtain ⟨t,u,v,e⟩:=x;exact ⟨t,u,v,k _ _ (.inl rfl) e⟩
 |pG ob u ih=>obtain ⟨e,q⟩:=x;exact ⟨k _ _ (.inl rfl) e,ih q⟩
 |Eg ps=>
  have e:h.get? a=some {cls:= .none,data:= .fields ps}:=x;show h'.get? a=some {cls:= .none,data:= .fields ps};exact k a _ (.inl rfl) e
 |met f y=>
  have e:h.get? a=some (PySem.W.methodObj (.ref f) (.ref y)):=x;show h'.get? a=some (PySem.W.methodObj (.ref f) (.ref y));exact k a _ (.inl rfl) e
 |ext φ=>obtain ⟨p,⟨o,e⟩,st⟩:=x;exact ⟨st _ _ p λo q=>k _ _ (.inl rfl) q,⟨o,k _ _ (.inl rfl) e⟩,st⟩
theorem hV.lt(x:hV P w H h)(e:H a=some o):a<h.objs.size:=(x a o e).lt
theorem hV.fresh(x:hV P w H h)(e:h.objs.size≤a):H a=none:=by
 cases q:H a with
 |none=>rfl
 |some u=>exact absurd (gf (x.lt q) e) (gP _)
theorem hV.kept(x:hV P w H h)(k:∀b u,h.get? b=some u→h'.get? b=some u):hV P w H h':=λa o e=>
 (x a o e).r9 (λb u _ q=>k b u q) (λ_ q=>q) λ_ _ q=>q
theorem hV.laid(x:hV P w H h)(k:∀b u,h.get? b=some u→h'.get? b=some u)(hp:h.objs.size≤a)(new:cV P w (upd H a o) h' a o):hV P w (upd H a o) h':=λb u e=>by
 have hn:=x.fresh hp
 by_cases hb:b=a
 ·subst hb;rw [ax] at e;cases e;exact new
 ·rw [aF hb] at e
  exact (x b u e).r9 (λc v _ q=>k c v q) (λc q=>by rw [aF (aW q hn)];exact q) λc xs q=>by rw [aF (aW q hn)];exact q
end
def Rd(H:Hp)(a:Addr)(u:HO):Prop:=H a=some u∨∃o,H a=some (.pG o u)
theorem Rd.ok{P:Program}{w:World}{H:Hp}{h:Heap}{a:Addr}{u:HO}(r:Rd H a u)(x:hV P w H h):cV P w H h a u:=by
 rcases r with r| ⟨o,r⟩
 ·exact x a u r
 ·obtain ⟨_,q⟩:=x a _ r
  exact q
def J5:Option HO→Prop
 |some (.lst _)=>True
 |some (.dK _)=>True
 |some (.dT _)=>True
 |some (.set _ _)=>True
 |some (.ins _ _ _)=>True
 |some (.ext _)=>True
 |_=>False
section
variable {P:Program} {w:World} {H:Hp} {h h':Heap} {x e:Addr} {o':HO}
theorem hV.write(ok:hV P w H h)(mu:J5 (H x))(he:e=x∨H e=some (.own x))(k:∀b u,b≠e→h.get? b=some u→h'.get? b=some u)(FP:∃u,h'.get? e=some u)
  (new:cV P w (upd H x o') h' x o'):hV P w (upd H x o') h':=λb u q=>by
 have ML:∀c y,H c=some (.own y)→c≠x:=λc y r z=>by subst z;rw [r] at mu;exact mu
 have Tr:∀c xs,H c=some (.tup xs)→c≠x:=λc xs r z=>by subst z;rw [r] at mu;exact mu
 by_cases hb:b=x
 ·subst hb;rw [ax] at q;cases q;exact new
 ·rw [aF hb] at q
  by_cases CT:b=e
  ·have q':H b=some (.own x):=by
    rcases he with z|z
    ·exact absurd (CT.trans z) hb
    ·rw [CT];exact z
   rw [q] at q';cases q';obtain ⟨v,hv⟩:=FP;exact ⟨v,by rw [CT];exact hv⟩
  ·refine (ok b u q).r9 (λc v hc r=>k c v ?_ r) (λc r=>by rw [aF (ML c b r)];exact r) λc xs r=>by rw [aF (Tr c xs r)];exact r
   rcases hc with rfl|hc
   ·exact CT
   ·rintro rfl
    rcases he with z|z
    ·exact ML c b hc z
    ·rw [hc] at z;cases z;exact hb rfl
end
structure Un (fs ex:List Addr) (H H':Hp) (h h':Heap):Prop where
 keep:∀b o,h.get? b=some o→H b=none→b∉fs→b∉ex→h'.get? b=some o
 slot:∀b o,h.get? b=some o→H b=none→b∈fs→b∉ex→∃sl,h'.get? b=some {o with slots:=sl}
 free:∀b o,h.get? b=some o→H b=none→b∉ex→H' b=none
 there:∀b o,h.get? b=some o→b∉ex→∃o',h'.get? b=some o'
 tups:∀b xs,H b=some (.tup xs)→H' b=some (.tup xs)
 frzs:∀b o u,H b=some (.pG o u)→H' b=some (.pG o u)
 tbls:∀b ps,H b=some (.Eg ps)→∃more,H' b=some (.Eg (ps++more))
section
variable {fs Xd ex nB:List Addr} {H H1 H2:Hp} {h h1 h2 h':Heap} {a x e:Addr} {o:HO}
theorem Un.any(u:Un fs ex H H1 h h1){b:Addr}{ob:Obj}(q:h.get? b=some ob)(n:H b=none)(hx:b∉ex):∃sl,h1.get? b=some {ob with slots:=sl}:=by
 by_cases hb:b∈fs
 ·exact u.slot b ob q n hb hx
 ·exact ⟨ob.slots,u.keep b ob q n hb hx⟩
theorem Un.kept(k:∀b u,h.get? b=some u→h'.get? b=some u):Un fs ex H H h h':=
 ⟨λb ob q _ _ _=>k b ob q,λb ob q _ _ _=>⟨ob.slots,k b ob q⟩,λ_ _ _ n _=>n,λb ob q _=>⟨ob,k b ob q⟩,λ_ _ q=>q,λ_ _ _ q=>q,λ_ ps q=>⟨#[],by rw [q];simp⟩⟩
theorem Un.refl:Un fs ex H H h h:=Un.kept λ_ _ q=>q
theorem Un.laid(k:∀b u,h.get? b=some u→h'.get? b=some u)(hp:h.objs.size≤a)(hn:H a=none):Un fs ex H (upd H a o) h h' where
 keep:=λb u q _ _ _=>k b u q
 slot:=λb u q _ _ _=>⟨u.slots,k b u q⟩
 free:=λb u q n _=>by rw [aF (bQ (gf (Heap.lt_size q) hp))];exact n
 there:=λb u q _=>⟨u,k b u q⟩
 tups:=λb xs q=>by rw [aF (aW q hn)];exact q
 frzs:=λb u xs q=>by rw [aF (aW q hn)];exact q
 tbls:=λb ps q=>⟨#[],by rw [aF (aW q hn),q];simp⟩
theorem Un.write(mu:J5 (H x))(he:e=x∨H e=some (.own x))(k:∀b u,b≠e→h.get? b=some u→h'.get? b=some u)(FP:∃u,h'.get? e=some u):Un fs ex H (upd H x o) h h':=by
 have hx:∀b,H b=none→b≠x:=λb n z=>by subst z;rw [n] at mu;exact mu
 have hb:∀b,H b=none→b≠e:=λb n z=>by
  subst z
  rcases he with r|r
  ·exact hx b n r
  ·rw [n] at r;cases r
 have hm:∀b u,H b=some u→¬J5 (some u)→b≠x:=λb u q nm z=>by subst z;rw [q] at mu;exact nm mu
 refine ⟨λb u q n _ _=>k b u (hb b n) q,λb u q n _ _=>⟨u.slots,k b u (hb b n) q⟩,λb u q n _=>by rw [aF (hx b n)];exact n,λb u q _=>?_,
  λb xs q=>by rw [aF (hm b _ q λz=>z)];exact q,λb u xs q=>by rw [aF (hm b _ q λz=>z)];exact q,λb ps q=>⟨#[],by rw [aF (hm b _ q λz=>z),q];simp⟩⟩
 by_cases CT:b=e
 ·subst CT;exact FP
 ·exact ⟨u,k b u CT q⟩
end
def LP(h:Heap)(H:Hp):List Addr:=(List.range h.objs.size).filter λa=>(H a).isSome
def pK(h:Heap)(H:Hp):Heap:=PySem.W.hideAll h (LP h H)
theorem CY(h:Heap)(H:Hp):(pK h H).objs.size=h.objs.size:=PySem.W.hideAll_size _ _
theorem FT{h:Heap}{H:Hp}{b:Addr}{o:Obj}(e:h.get? b=some o)(n:H b=none):(pK h H).get? b=some o:=
 PySem.W.hideAll_get _ e λhm=>by
  have q:(H b).isSome=true:=(kU.mp hm).2;rw [n] at q;simp at q
theorem IL{h:Heap}{H:Hp}{b:Addr}{o:Obj}(e:(pK h H).get? b=some o):h.get? b=some o∧H b=none:=by
 have e':h.get? b=some o:=PySem.W.of_hideAll (LP h H) e;refine ⟨e',?_⟩;cases q:H b with
 |none=>rfl
 |some x=>
  have hm:b∈LP h H:=kU.mpr ⟨bH.mpr (Heap.lt_size e'),by simp [q]⟩
  have z:(pK h H).get? b=none:=PySem.W.hideAll_none (LP h H) hm;rw [z] at e;cases e
structure Mod (K:PySem.W.Frag) (mg:Str→Option Value) (base:Heap):Prop where
 kin:K.In base
 glob:base.Ns mainGlobals mg
 blt:∃mb,base.Ns builtinsNs mb∧∀x:Str,x≠"__name__"→mb x=bootBuiltins x
 nolimit:base.NoLimit
structure Cx where
 prog:Program
 w:World
 K:PySem.W.Frag
 mg:Str→Option Value
 base:Heap
 A:Around
 N:List Str
 s₀:Shared
 H₀:Hp
 env:Env
 outer:List Env
 stack:List Env
 ex:List Addr
 fn:Str→Bool
 calm:Bool
 pn:List (Addr×Obj)
 xe:Value→Shared→Prop
def uc(l:List Env):List Addr:=l.filterMap (·.frame)
abbrev Cx.fs(X:Cx):List Addr:=uc X.outer
def sH(sc:Scope)(x:Str):Prop:=sc.names.lookup x=some .local∨sc.names.lookup x=some .cell∨sc.names.lookup x=some .free
def Loc(sc:Scope)(x:Str):Prop:=sc.names.lookup x=some .local∨sc.names.lookup x=some .cell
def Look(env:Env)(h:Heap)(m:Str→Option Value)(x:Str)(u:Value):Prop:=
 (env.kindOf x=some .local∧m x=some u)∨((env.kindOf x=some .cell∨env.kindOf x=some .free)∧∃c,env.cells.lookup x=some c∧h.IsCell c (some u))
structure Cx.Ok (X:Cx):Prop where
 mod:Mod X.K X.mg X.base
 kind:X.env.scope.kind= .function
 glob:X.env.globals=mainGlobals
 blt:X.env.builtins=builtinsNs
 above:X.s₀.heap.objs.size≤X.env.locals
 inj:∀x y c,X.env.cells.lookup x=some c→X.env.cells.lookup y=some c→x=y
 has:∀x,(X.env.kindOf x=some .cell∨X.env.kindOf x=some .free)→∃c,X.env.cells.lookup x=some c
 cab:∀x c,X.fn x=true→X.env.cells.lookup x=some c→X.s₀.heap.objs.size≤c
 hd:X.calm=true→X.A.handled=none
 frames:X.A.frames=some X.stack
 stk:X.stack=X.outer∨(X.stack=X.env::X.outer∧X.env.frame=some X.env.locals)
 exf:∀b∈X.ex,b≠X.env.locals∧∀x c,X.env.cells.lookup x=some c→c≠b
 bs:∀b o,X.base.get? b=some o→X.s₀.heap.get? b=some o∧X.H₀ b=none
 bsz:X.base.objs.size≤X.s₀.heap.objs.size
 noex:∀b o,X.base.get? b=some o→b∉X.ex
 exfs:∀b∈X.ex,b∉X.fs
 funs:X.s₀.heap.FunFrames X.base X.outer
 frf:∀b∈X.fs,X.H₀ b=none
structure Inv (X:Cx) (pins:List (Addr×Obj)) (σ:List (Option V)) (H:Hp) (s:Shared):Prop where
 ok:X.Ok
 os:s.os=X.s₀.os
 bare:AllBare s.gens
 base:Un X.fs X.ex X.H₀ H X.s₀.heap s.heap
 loc:∃m,s.heap.Ns X.env.locals m∧∀(i:Nat)(x:Str)(v:V),X.N[i]? =some x→σ[i]? =some (some v)→sH X.env.scope x→∃u,RelV v u∧Look X.env s.heap m x u
 cell:∀x c,X.env.cells.lookup x=some c→∃v,s.heap.IsCell c v
 free:H X.env.locals=none
 freeC:∀x c,X.env.cells.lookup x=some c→H c=none
 pin:∀p∈X.pn++pins,s.heap.get? p.1=some p.2∧H p.1=none∧p.1≠X.env.locals∧p.1∉X.fs∧∀v,p.2.data≠ .cell v
 hok:hV X.prog X.w H s.heap
 len:σ.length=X.N.length
section
variable {X:Cx} {pins:List (Addr×Obj)} {σ:List (Option V)} {H H':Hp} {s:Shared} {h':Heap}
theorem Cx.Ok.Tp(ok:X.Ok){b:Addr}{o:Obj}(e:X.base.get? b=some o):b∉X.fs:=λhb=>by
 have:=(ok.funs.mem hb).1
 rw [e] at this;cases this
theorem Inv.bs(I:Inv X pins σ H s):∀b o,X.base.get? b=some o→s.heap.get? b=some o∧H b=none:=λb o e=>
 ⟨I.base.keep b o (I.ok.bs b o e).1 (I.ok.bs b o e).2 (I.ok.Tp e) (I.ok.noex b o e),I.base.free b o (I.ok.bs b o e).1 (I.ok.bs b o e).2 (I.ok.noex b o e)⟩
theorem Inv.bk(I:Inv X pins σ H s):∀b o,X.base.get? b=some o→s.heap.get? b=some o:=λb o e=>(I.bs b o e).1
theorem Inv.mod(I:Inv X pins σ H s):Mod X.K X.mg X.base:=I.ok.mod
theorem Inv.gT(I:Inv X pins σ H s):X.K.In s.heap:=I.ok.mod.kin.keeps I.bk
theorem Inv.lt(I:Inv X pins σ H s):X.env.locals<s.heap.objs.size:=let ⟨_,hn,_⟩:=I.loc;hn.lt
theorem Inv.sz(I:Inv X pins σ H s):X.s₀.heap.objs.size≤s.heap.objs.size:=kX I.ok.above (mK I.lt)
theorem Inv.IH(I:Inv X pins σ H s){a:Addr}(h:s.heap.objs.size≤a):a∉X.fs:=λhb=>by
 obtain ⟨_,o,ho,_⟩:=I.ok.funs.mem hb;exact absurd (gf (Heap.lt_size ho) (kX I.sz h)) (gP _)
theorem Inv.yP(I:Inv X pins σ H s):∀x c,X.env.cells.lookup x=some c→c≠X.env.locals:=λx c e z=>by
 obtain ⟨v,o,ho,hd⟩:=I.cell x c e;obtain ⟨m,⟨o',es,ep,lg,nE,_⟩,_⟩:=I.loc;rw [z,lg] at ho;cases ho;rw [nE] at hd;cases hd
theorem Inv.funs(I:Inv X pins σ H s):s.heap.FunFrames X.base X.outer:=by
 have all:∀(l:List Env),(∀b∈uc l,b∈X.fs)→X.s₀.heap.FunFrames X.base l→s.heap.FunFrames X.base l:=by
  intro l
  induction l with
  |nil=>intro _ _;trivial
  |cons env r ih=>
   intro hs hl;obtain ⟨hk,⟨L,o,hf,hn,ho,hd⟩,hr⟩:=hl;have hL:L∈X.fs:=hs L (by unfold uc;rw [yA,hf];exact cB)
   obtain ⟨sl,e⟩:=I.base.slot L o ho (I.ok.frf L hL) hL λz=>I.ok.exfs L z hL;exact ⟨hk,⟨L,_,hf,hn,e,hd⟩,ih (λb hb=>hs b (by unfold uc;rw [yA,hf];exact cI _ hb)) hr⟩
 exact all X.outer (λ_ hb=>hb) I.ok.funs
theorem Inv.stack(I:Inv X pins σ H s):s.heap.FunFrames X.base X.stack:=by
 rcases I.ok.stk with e| ⟨e,hf⟩
 ·rw [e];exact I.funs
 ·rw [e]
  obtain ⟨m,hn,_⟩:=I.loc;refine .cons (by rw [I.ok.kind];decide) hf hn ?_ I.funs
  exact Heap.get?_none_of_le (kX I.ok.bsz I.ok.above)
theorem Inv.zU(I:Inv X pins σ H s):∀b∈uc X.stack,b∈X.env.locals::X.fs:=λb hb=>by
 rcases I.ok.stk with e| ⟨e,hf⟩
 ·rw [e] at hb;exact cI _ hb
 ·rw [e] at hb
  unfold uc at hb;rw [yA,hf] at hb;exact hb
theorem Inv.B9(I:Inv X pins σ H s):∀b∈uc X.stack,H b=none:=λb hb=>by
 rcases cn.mp (I.zU b hb) with e|hb
 ·rw [e];exact I.free
 ·obtain ⟨_,o,ho,_⟩:=I.ok.funs.mem hb
  exact I.base.free b o ho (I.ok.frf b hb) λz=>I.ok.exfs b z hb
theorem Inv.step{g':Array GenState}{t':Nat}{d':Drawn}{ch:List Addr}(I:Inv X pins σ H s)
  (vY:∀b∈ch,(b∈X.ex∨X.s₀.heap.objs.size≤b)∧b≠X.env.locals∧(∀x c,X.env.cells.lookup x=some c→c≠b)∧∀p∈X.pn++pins,p.1≠b)
  (keep:∀b o,b≠X.env.locals→b∉X.fs→b∉ch→s.heap.get? b=some o→H b=none→h'.get? b=some o)
  (slot:∀b o,b≠X.env.locals→b∈X.fs→b∉ch→s.heap.get? b=some o→H b=none→∃sl,h'.get? b=some {o with slots:=sl}) (free:∀b o,b∉ch→s.heap.get? b=some o→H b=none→H' b=none)
  (there:∀b o,b∉ch→s.heap.get? b=some o→∃o',h'.get? b=some o')
  (tups:∀b xs,H b=some (.tup xs)→H' b=some (.tup xs)) (frzs:∀b o u,H b=some (.pG o u)→H' b=some (.pG o u)) (tbls:∀b ps,H b=some (.Eg ps)→∃more,H' b=some (.Eg (ps++more)))
  (ns:∀m,s.heap.Ns X.env.locals m→h'.Ns X.env.locals m) (hok:hV X.prog X.w H' h') (hg:AllBare g'):
  Inv X pins σ H' {s with heap:=h',gens:=g',drawn:=d',toks:=t'}:=by
 have Tn:∀b o,X.s₀.heap.get? b=some o→b≠X.env.locals:=λb o e=>bQ (gf (Heap.lt_size e) I.ok.above)
 have K5:∀b o,X.s₀.heap.get? b=some o→b∉X.ex→b∉ch:=λb o e hx hb=>by
  rcases (vY b hb).1 with z|z
  ·exact hx z
  ·exact absurd (gf (Heap.lt_size e) z) (gP _)
 have cellK:∀x c,X.env.cells.lookup x=some c→∀v,s.heap.IsCell c v→h'.IsCell c v:=λx c e v ⟨o,ho,hd⟩=>by
  have IE:c∉ch:=λz=>(vY c z).2.2.1 x c e rfl
  by_cases hc:c∈X.fs
  ·obtain ⟨sl,q⟩:=slot c o (I.yP x c e) hc IE ho (I.freeC x c e)
   exact ⟨_,q,hd⟩
  ·exact ⟨o,keep c o (I.yP x c e) hc IE ho (I.freeC x c e),hd⟩
 refine ⟨I.ok,I.os,hg,⟨λb o e n hb hx=>?_,λb o e n hb hx=>?_,λb o e n hx=>?_,λb o e hx=>?_,λb xs e=>tups b xs (I.base.tups b xs e),λb o xs e=>frzs b o xs (I.base.frzs b o xs e),λb ps e=>?_⟩,?_,λx c e=>?_,?_,λx c e=>?_,λp hp=>?_,hok,I.len⟩
 ·exact keep b o (Tn b o e) hb (K5 b o e hx) (I.base.keep b o e n hb hx) (I.base.free b o e n hx)
 ·obtain ⟨sl,e1⟩:=I.base.slot b o e n hb hx
  obtain ⟨sl',e2⟩:=slot b _ (Tn b o e) hb (K5 b o e hx) e1 (I.base.free b o e n hx);exact ⟨sl',e2⟩
 ·obtain ⟨o',e1⟩:=I.base.there b o e hx
  exact free b o' (K5 b o e hx) e1 (I.base.free b o e n hx)
 ·obtain ⟨o',e1⟩:=I.base.there b o e hx
  exact there b o' (K5 b o e hx) e1
 ·obtain ⟨m1,e1⟩:=I.base.tbls b ps e
  obtain ⟨m2,e2⟩:=tbls b _ e1;exact ⟨m1++m2,by rw [e2,Array.append_assoc]⟩
 ·obtain ⟨m,hn,hl⟩:=I.loc
  refine ⟨m,ns m hn,λi x v e1 e2 e3=>?_⟩;obtain ⟨u,r,l⟩:=hl i x v e1 e2 e3;refine ⟨u,r,?_⟩
  rcases l with l| ⟨k,c,e,z⟩
  ·exact .inl l
  ·exact .inr ⟨k,c,e,cellK x c e _ z⟩
 ·obtain ⟨v,z⟩:=I.cell x c e
  exact ⟨v,cellK x c e v z⟩
 ·obtain ⟨m,⟨o,_,_,ho,_⟩,_⟩:=I.loc
  exact free _ o (λz=>(vY _ z).2.1 rfl) ho I.free
 ·obtain ⟨v,o,ho,hd⟩:=I.cell x c e
  exact free c o (λz=>(vY c z).2.2.1 x c e rfl) ho (I.freeC x c e)
 ·obtain ⟨e,n,ne,nf,d⟩:=I.pin p hp
  have IE:p.1∉ch:=λz=>(vY p.1 z).2.2.2 p hp rfl;exact ⟨keep p.1 p.2 ne nf IE e n,free p.1 p.2 IE e n,ne,nf,d⟩
theorem Inv.un{t':Nat}(I:Inv X pins σ H s)(u:Un X.fs [] H H' s.heap h')(hok:hV X.prog X.w H' h'):Inv X pins σ H' {s with heap:=h',toks:=t'}:=by
 obtain ⟨m,⟨o,es,ep,ho,r⟩,_⟩:=id I.loc;obtain ⟨sl,hL⟩:=u.any ho I.free (by simp)
 exact I.step (g':=s.gens) (d':=s.drawn) (ch:= []) (λ_ z=>nomatch z) (λb o _ hb _ e n=>u.keep b o e n hb (by simp)) (λb o _ hb _ e n=>u.slot b o e n hb (by simp)) (λb o _ e n=>u.free b o e n (by simp)) (λb o _ e=>u.there b o e (by simp)) u.tups u.frzs u.tbls (λm' hm=>by
  obtain ⟨o',jn,CH,lg,r'⟩:=hm;rw [ho] at lg;cases lg;exact ⟨_,jn,CH,hL,r'⟩) hok I.bare
theorem Inv.call{g':Array GenState}{t':Nat}{d':Drawn}{ch:List Addr}(I:Inv X pins σ H s)(u:Un (uc X.stack) ch H H' s.heap h')(hok:hV X.prog X.w H' h')(hg:AllBare g')
  (vY:∀b∈ch,(b∈X.ex∨X.s₀.heap.objs.size≤b)∧b≠X.env.locals∧(∀x c,X.env.cells.lookup x=some c→c≠b)∧∀p∈X.pn++pins,p.1≠b):
  Inv X pins σ H' {s with heap:=h',gens:=g',drawn:=d',toks:=t'}:=by
 obtain ⟨m,⟨o,es,ep,ho,r⟩,_⟩:=id I.loc;obtain ⟨sl,hL⟩:=u.any ho I.free λz=>(vY _ z).2.1 rfl
 exact I.step (ch:=ch) vY (λb o hL hb hc e n=>u.keep b o e n (λz=>(cn.mp (I.zU b z)).elim hL hb) hc) (λb o _ _ hc e n=>u.any e n hc) (λb o hc e n=>u.free b o e n hc) (λb o hc e=>u.there b o e hc) u.tups u.frzs u.tbls (λm' hm=>by
  obtain ⟨o',jn,CH,lg,r'⟩:=hm;rw [ho] at lg;cases lg;exact ⟨_,jn,CH,hL,r'⟩) hok hg
theorem Inv.turned{t':Nat}{it:Addr}(I:Inv X pins σ H s)(k:∀b o,b≠it→s.heap.get? b=some o→h'.get? b=some o)(hn:H it=none)(hL:it≠X.env.locals)
  (h1:it∈X.ex∨X.s₀.heap.objs.size≤it) (h2:∀x c,X.env.cells.lookup x=some c→c≠it) (h3:∀p∈X.pn++pins,p.1≠it):Inv X pins σ H {s with heap:=h',toks:=t'}:=by
 have To:∀b u,H b=some u→b≠it:=λb u e z=>by rw [z,hn] at e;cases e
 refine I.step (g':=s.gens) (d':=s.drawn) (ch:= [it]) (λb hb=>?_) (λb o _ _ hc e _=>k b o (λz=>hc (by simp [z])) e) (λb o _ _ hc e _=>⟨o.slots,k b o (λz=>hc (by simp [z])) e⟩) (λ_ _ _ _ n=>n)
  (λb o hc e=>⟨o,k b o (λz=>hc (by simp [z])) e⟩) (λ_ _ e=>e) (λ_ _ _ e=>e) (λb ps e=>⟨#[],by rw [e];simp⟩) (λm hm=>?_) (λb u e=>?_) I.bare
 ·have e:b=it:=by simpa using hb
  subst e;exact ⟨h1,hL,h2,h3⟩
 ·obtain ⟨o,es,ep,ho,r⟩:=hm
  exact ⟨o,es,ep,k _ o (Ne.symm hL) ho,r⟩
 ·refine (I.hok b u e).r9 (λc v hc q=>k c v ?_ q) (λ_ q=>q) λ_ _ q=>q
  rcases hc with z|z
  ·rw [z];exact To b u e
  ·exact To c _ z
theorem Inv.tok(I:Inv X pins σ H s)(t:Nat):Inv X pins σ H {s with toks:=t}:=I.un (h':=s.heap) (t':=t) Un.refl I.hok
theorem Inv.kept{t':Nat}(I:Inv X pins σ H s)(k:∀b u,s.heap.get? b=some u→h'.get? b=some u):Inv X pins σ H {s with heap:=h',toks:=t'}:=I.un (Un.kept k) (I.hok.kept k)
theorem Inv.laid{a:Addr}{o:HO}{t':Nat}(I:Inv X pins σ H s)(k:∀b u,s.heap.get? b=some u→h'.get? b=some u)(hp:s.heap.objs.size≤a)(new:cV X.prog X.w (upd H a o) h' a o):
  Inv X pins σ (upd H a o) {s with heap:=h',toks:=t'}:=I.un (Un.laid k hp (I.hok.fresh hp)) (I.hok.laid k hp new)
theorem Inv.write{x e:Addr}{o:HO}{t':Nat}(I:Inv X pins σ H s)(mu:J5 (H x))(he:e=x∨H e=some (.own x))(k:∀b u,b≠e→s.heap.get? b=some u→h'.get? b=some u)(FP:∃u,h'.get? e=some u)
  (new:cV X.prog X.w (upd H x o) h' x o):Inv X pins σ (upd H x o) {s with heap:=h',toks:=t'}:=I.un (Un.write mu he k FP) (I.hok.write mu he k FP new)
theorem Inv.jP{zG:List (Addr×Obj)}(I:Inv X pins σ H s)(h:∀p∈zG,s.heap.get? p.1=some p.2∧H p.1=none∧p.1≠X.env.locals∧p.1∉X.fs∧∀v,p.2.data≠ .cell v):Inv X zG σ H s:=
 ⟨I.ok,I.os,I.bare,I.base,I.loc,I.cell,I.free,I.freeC,λp hp=>(cv.mp hp).elim (λz=>I.pin p (fb _ z)) (h p),I.hok,I.len⟩
theorem w9{N:List Str}(hN:N.Nodup){i j:Nat}{x:Str}(a:N[i]? =some x)(b:N[j]? =some x):i=j:=by
 obtain ⟨h1,e1⟩:=eO.mp a;obtain ⟨h2,e2⟩:=eO.mp b;exact (List.getElem_inj hN).mp (e1.trans e2.symm)
theorem store_ok2{M:Model}{A:Around}{E:Value→Shared→Prop}{i:Nat}{x:Str}{v:V}{u:Value}{Q:Unit→Shared→Prop}(I:Inv X pins σ H s)(hN:X.N.Nodup)(hi:X.N[i]? =some x)(hx:Loc X.env.scope x)(r:RelV v u)
  (h:∀s',Inv X pins (σ.set i (some v)) H s'→(∃a,Heap.SameBut a s.heap s'.heap∧(a=X.env.locals∨X.env.cells.lookup x=some a))→Q () s') (hf:X.fn x=true∨X.env.scope.names.lookup x=some .local:=by first|exact .inl rfl|exact .inr rfl|assumption):wpAny M A (storeName X.env x u) Q E s:=by
 obtain ⟨m,hn,hl⟩:=id I.loc;have RS:(X.env.scope.kind== .class|| (X.env.scope.kind== .module&&X.env.locals !=X.env.globals))=false:=by rw [I.ok.kind];rfl
 have Mz:i<σ.length:=by rw [I.len];exact (eO.mp hi).1
 have yP:=I.yP
 have tracked:∀{a:Addr}{h':Heap},(∃o,s.heap.get? a=some o∧H a=none)→Heap.SameBut a s.heap h'→hV X.prog X.w H h':=λ {a h'} ha hs b ob e=>by
  obtain ⟨_,_,HX⟩:=ha;refine (I.hok b ob e).r9 (λc w' hc q=>(hs.2 c ?_).trans q) (λ_ q=>q) λ_ _ q=>q;rintro rfl
  rcases hc with rfl|hc
  ·rw [HX] at e;cases e
  ·rw [HX] at hc;cases hc
 rcases hx with hk|hk
 ·refine wpAny_storeName_local hk hn (λh' XR hs=>?_) RS
  obtain ⟨oL,_,_,Bp,_⟩:=id hn;refine h _ ⟨I.ok,I.os,I.bare,⟨λb o e n hb hx=>?_,λb o e n hb hx=>?_,I.base.free,λb o e hx=>?_,I.base.tups,I.base.frzs,I.base.tbls⟩,⟨_,XR,λj y v' e1 e2 e3=>?_⟩,λy c e=>?_,I.free,I.freeC,λp hp=>?_,tracked ⟨oL,Bp,I.free⟩ hs,by simpa using I.len⟩ ⟨_,hs, .inl rfl⟩
  ·exact (hs.2 b (bQ (gf (Heap.lt_size e) I.ok.above))).trans (I.base.keep b o e n hb hx)
  ·obtain ⟨sl,e1⟩:=I.base.slot b o e n hb hx
   exact ⟨sl,(hs.2 b (bQ (gf (Heap.lt_size e) I.ok.above))).trans e1⟩
  ·obtain ⟨o',e1⟩:=I.base.there b o e hx
   exact ⟨o',(hs.2 b (bQ (gf (Heap.lt_size e) I.ok.above))).trans e1⟩
  ·by_cases hj:j=i
   ·subst hj
    rw [hi] at e1;cases e1;rw [qw Mz] at e2;cases e2;exact ⟨u,r, .inl ⟨hk,by simp⟩⟩
   ·rw [yz (Ne.symm hj)] at e2
    obtain ⟨u',r',q⟩:=hl j y v' e1 e2 e3;refine ⟨u',r',?_⟩
    rcases q with ⟨k,e⟩ | ⟨k,c,e,z⟩
    ·refine .inl ⟨k,?_⟩
     have:y≠x:=λe=>hj (w9 hN e1 (e▸hi))
     simp [this,e]
    ·exact .inr ⟨k,c,e,z.sameBut hs (yP y c e)⟩
  ·obtain ⟨w',z⟩:=I.cell y c e
   exact ⟨w',z.sameBut hs (yP y c e)⟩
  ·obtain ⟨e,n,ne,nf,d⟩:=I.pin p hp
   exact ⟨(hs.2 p.1 ne).trans e,n,ne,nf,d⟩
 ·have Ot:X.fn x=true:=by
   rcases hf with z|z
   ·exact z
   ·rw [z] at hk;cases hk
  obtain ⟨c,hc⟩:=I.ok.has x (.inl hk);obtain ⟨w',z⟩:=I.cell x c hc;refine wpAny_storeName_cell I.ok.kind hk hc z (λh' uf hs=>?_);obtain ⟨oc,Sb,Sd⟩:=id z;refine h {s with heap:=h'} ⟨I.ok,I.os,I.bare,⟨λb o e n hb hx=>?_,λb o e n hb hx=>?_,I.base.free,λb o e hx=>?_,I.base.tups,I.base.frzs,I.base.tbls⟩,⟨m,hn.sameBut hs (Ne.symm (yP x c hc)),λj y v' e1 e2 e3=>?_⟩,λy c' e=>?_,I.free,I.freeC,λp hp=>?_,tracked ⟨oc,Sb,I.freeC x c hc⟩ hs,by simpa using I.len⟩ ⟨c,hs, .inr hc⟩
  ·exact (hs.2 b (bQ (gf (Heap.lt_size e) (I.ok.cab x c Ot hc)))).trans (I.base.keep b o e n hb hx)
  ·obtain ⟨sl,e1⟩:=I.base.slot b o e n hb hx
   exact ⟨sl,(hs.2 b (bQ (gf (Heap.lt_size e) (I.ok.cab x c Ot hc)))).trans e1⟩
  ·obtain ⟨o',e1⟩:=I.base.there b o e hx
   exact ⟨o',(hs.2 b (bQ (gf (Heap.lt_size e) (I.ok.cab x c Ot hc)))).trans e1⟩
  ·by_cases hj:j=i
   ·subst hj
    rw [hi] at e1;cases e1;rw [qw Mz] at e2;cases e2;exact ⟨u,r, .inr ⟨.inl hk,c,hc,uf⟩⟩
   ·rw [yz (Ne.symm hj)] at e2
    obtain ⟨u',r',q⟩:=hl j y v' e1 e2 e3;refine ⟨u',r',?_⟩
    rcases q with q| ⟨k,c',e,z'⟩
    ·exact .inl q
    ·refine .inr ⟨k,c',e,z'.sameBut hs ?_⟩
     rintro rfl;exact hj (w9 hN e1 (I.ok.inj _ _ _ e hc▸hi))
  ·by_cases RQ:c'=c
   ·subst RQ;exact ⟨_,uf⟩
   ·obtain ⟨w2,z2⟩:=I.cell y c' e
    exact ⟨w2,z2.sameBut hs RQ⟩
  ·obtain ⟨e,n,ne,nf,d⟩:=I.pin p hp
   refine ⟨(hs.2 p.1 ?_).trans e,n,ne,nf,d⟩;intro q;rw [q,Sb] at e;have q':oc=p.2:=Option.some.inj e;exact d w' (by rw [←q'];exact Sd)
theorem nj{M:Model}{A:Around}{E:Value→Shared→Prop}{i:Nat}{x:Str}{v:V}{u:Value}{Q:Unit→Shared→Prop}(I:Inv X pins σ H s)(hN:X.N.Nodup)(hi:X.N[i]? =some x)(hx:Loc X.env.scope x)(r:RelV v u)
  (h:∀s',Inv X pins (σ.set i (some v)) H s'→Q () s') (hf:X.fn x=true∨X.env.scope.names.lookup x=some .local:=by first|exact .inl rfl|exact .inr rfl|assumption):wpAny M A (storeName X.env x u) Q E s:=
 store_ok2 I hN hi hx r (λs' I' _=>h s' I') hf
theorem Inv.M7{s':Shared}{ch:List Addr}(I:Inv X pins σ H s)(ho:s'.os=s.os)(u:Un (uc X.stack) ch H H' s.heap s'.heap)(hok:hV X.prog X.w H' s'.heap)(hg:AllBare s'.gens)
  (vY:∀b∈ch,(b∈X.ex∨X.s₀.heap.objs.size≤b)∧b≠X.env.locals∧(∀x c,X.env.cells.lookup x=some c→c≠b)∧∀p∈X.pn++pins,p.1≠b):Inv X pins σ H' s':=by
 obtain ⟨h',g',d',t',o'⟩:=s';have e:o'=s.os:=ho;subst e;exact I.call (g':=g') (t':=t') (d':=d') u hok hg vY
end
abbrev XK:=Value→Option Addr→Hp→Prop
abbrev St:=List (Option V)
abbrev VK:=V→Hp→Prop
abbrev TE:=St→Hp→VK→Prop
abbrev TT:=St→Hp→(Bool→Hp→Prop)→Prop
abbrev TA:=St→Hp→(List V→Hp→Prop)→Prop
structure Ends where
 nx:St→Hp→Prop
 rt:VK
 bk:St→Hp→Prop:=λ_ _=>False
 ct:St→Hp→Prop:=λ_ _=>False
abbrev TS:=Ends→St→Hp→Prop
def EP(X:Cx)(pins:List (Addr×Obj))(σ:St)(Q:VK)(u:Value)(s':Shared):Prop:=∃v H',Inv X pins σ H' s'∧RelV v u∧Q v H'
def TP(X:Cx)(pins:List (Addr×Obj))(σ:St)(Q:Bool→Hp→Prop)(b:Bool)(s':Shared):Prop:=∃H',Inv X pins σ H' s'∧Q b H'
def AP(X:Cx)(pins:List (Addr×Obj))(σ:St)(Q:List V→Hp→Prop)(us:List Value)(s':Shared):Prop:=∃vs H',Inv X pins σ H' s'∧Vals vs us∧Q vs H'
def SP(X:Cx)(pins:List (Addr×Obj))(D:Ends)(f:Flow)(s':Shared):Prop:=
 match f with
 | .next=>∃aw H',Inv X pins aw H' s'∧D.nx aw H'
 | .brk=>∃aw H',Inv X pins aw H' s'∧D.bk aw H'
 | .cont=>∃aw H',Inv X pins aw H' s'∧D.ct aw H'
 | .ret u=>∃v aw H',Inv X pins aw H' s'∧RelV v u∧D.rt v H'
def PE(X:Cx)(e:Expr)(t:TE):Prop:=
 ∀(pins:List (Addr×Obj))(s:Shared)(σ:St)(H:Hp)(Q:VK),Inv X pins σ H s→t σ H Q→wpAny (model X.prog X.w) X.A (eval e X.env) (EP X pins σ Q) X.xe s
def PT(X:Cx)(e:Expr)(t:TT):Prop:=
 ∀(pins:List (Addr×Obj))(s:Shared)(σ:St)(H:Hp)(Q:Bool→Hp→Prop),Inv X pins σ H s→t σ H Q→wpAny (model X.prog X.w) X.A (isTrue e X.env (eval e X.env)) (TP X pins σ Q) X.xe s
def PW(X:Cx)(e:Expr)(t:TT):Prop:=
 ∀(whole:Sem Value)(pins:List (Addr×Obj))(s:Shared)(σ:St)(H:Hp)(Q:Bool→Hp→Prop),Inv X pins σ H s→t σ H Q→wpAny (model X.prog X.w) X.A (isTrue e X.env whole) (TP X pins σ Q) X.xe s
theorem PW.pt{X:Cx}{e:Expr}{t:TT}(h:PW X e t):PT X e t:=h _
def PA(X:Cx)(es:List Expr)(t:TA):Prop:=
 ∀(pos:Pos)(pins:List (Addr×Obj))(s:Shared)(σ:St)(H:Hp)(Q:List V→Hp→Prop),Inv X pins σ H s→t σ H Q→wpAny (model X.prog X.w) X.A (spliced (backTo pos (starEach es X.env))) (AP X pins σ Q) X.xe s
def PS(X:Cx)(st:Stmt)(t:TS):Prop:=
 ∀(pins:List (Addr×Obj))(s:Shared)(σ:St)(H:Hp)(D:Ends),Inv X pins σ H s→t D σ H→wpAny (model X.prog X.w) X.A (exec st X.env) (SP X pins D) X.xe s
def lD(X:Cx)(st:List Stmt)(t:TS):Prop:=
 ∀(pins:List (Addr×Obj))(s:Shared)(σ:St)(H:Hp)(D:Ends),Inv X pins σ H s→t D σ H→wpAny (model X.prog X.w) X.A (execs st X.env) (SP X pins D) X.xe s
theorem thn{α:Type}{t:Sem α}{Q Q':α→Shared→Prop}{M:Model}{A:Around}{E:Value→Shared→Prop}{s:Shared}(h:wpAny M A t Q E s)(hQ:∀a s,Q a s→Q' a s):wpAny M A t Q' E s:=wpAny_mono h hQ λ_ _ x=>x
section
variable {X:Cx}
def MX(i:Nat):TE:=λσ H Q=>∃v,σ[i]? =some (some v)∧Q v H
def tC(v:V):TE:=λ_ H Q=>Q v H
theorem E6{i:Nat}{x:Str}{pos:Pos}(hN:X.N[i]? =some x)(hv:sH X.env.scope x)(hd:(x==("__debug__":Str))=false:=by decide)(fT:(x==("__classdict__":Str))=false:=by decide):PE X (.Name x pos) (MX i):=by
 intro pins s σ H Q I h;obtain ⟨v,e,h⟩:=h;obtain ⟨m,hn,hl⟩:=I.loc;obtain ⟨u,r,l⟩:=hl i x v hN e hv;have fin:EP X pins σ Q u s:=⟨v,H,I,r,h⟩
 rcases l with ⟨hk,hm⟩ | ⟨hk,c,hc,HU⟩
 ·exact wpAny_Name (wpAny_loadName_local I.ok.kind hk hn hm fin) hd
 ·rcases hk with hk|hk
  ·exact wpAny_Name (wpAny_loadName_cell I.ok.kind hk hc HU fin) hd
  ·exact wpAny_Name (wpAny_loadName_free I.ok.kind hk hc HU fin fT) hd
theorem Lm{i j pos}:PE X (.Constant (.int i) j pos) (tC (.int i)):=λ_ _ _ H _ I h=>wpAny_Constant_int ⟨.int i,H,I.tok _,⟨_,rfl⟩,h⟩
theorem O7{b j pos}:PE X (.Constant (.bool b) j pos) (tC (.bl b)):=λ_ _ _ H _ I h=>Constant_bool ⟨.bl b,H,I,rfl,h⟩
theorem Ln{j pos}:PE X (.Constant .none j pos) (tC .bf):=λ_ _ _ H _ I h=>Constant_none ⟨.bf,H,I,rfl,h⟩
theorem Lq{x j pos}:PE X (.Constant (.str x) j pos) (tC (.str x)):=λ_ _ _ H _ I h=>Calls.Constant_str ⟨.str x,H,I.tok _,⟨_,rfl⟩,h⟩
def Gl(X:Cx)(x:Str):Prop:=X.env.kindOf x=some .globalImplicit
theorem ur{E:Value→Shared→Prop}{pins:List (Addr×Obj)}{s:Shared}{σ:St}{H:Hp}{x:Str}{u:Value}{pos:Pos}{Q:Value→Shared→Prop}(I:Inv X pins σ H s)(hg:Gl X x)(hm:X.mg x=some u)(h:Q u s)
  (hd:(x==("__debug__":Str))=false:=by decide):wpAny (model X.prog X.w) X.A (eval (.Name x pos) X.env) Q E s:=
 Calls.Name_function_global I.ok.kind hg (Calls.loadGlobal_global (by rw [I.ok.glob];exact I.mod.glob.keeps I.bk) hm h) hd
theorem ic{E:Value→Shared→Prop}{pins:List (Addr×Obj)}{s:Shared}{σ:St}{H:Hp}{x:Str}{u:Value}{pos:Pos}{Q:Value→Shared→Prop}(I:Inv X pins σ H s)(hg:Gl X x)(hm:X.mg x=none)(hv:bootBuiltins x=some u)(h:Q u s)
  (hn:x≠"__name__":=by decide) (hd:(x==("__debug__":Str))=false:=by decide):wpAny (model X.prog X.w) X.A (eval (.Name x pos) X.env) Q E s:=by
 obtain ⟨mb,h1,h2⟩:=I.mod.blt;exact Calls.Name_function_global I.ok.kind hg (Calls.loadGlobal_builtin (by rw [I.ok.glob];exact I.mod.glob.keeps I.bk) hm (by rw [I.ok.blt];exact h1.keeps I.bk) ((h2 x hn).trans hv) h) hd
theorem IZ{x:Str}{v:V}{u:Value}{pos:Pos}(hg:Gl X x)(hm:X.mg x=some u)(r:RelV v u)(hd:(x==("__debug__":Str))=false:=by decide):PE X (.Name x pos) (tC v):=
 λ_ _ _ H _ I h=>ur I hg hm ⟨v,H,I,r,h⟩ hd
theorem IU{x:Str}{v:V}{u:Value}{pos:Pos}(hg:Gl X x)(hm:X.mg x=none)(hv:bootBuiltins x=some u)(r:RelV v u)(hn:x≠"__name__":=by decide)(hd:(x==("__debug__":Str))=false:=by decide):PE X (.Name x pos) (tC v):=
 λ_ _ _ H _ I h=>ic I hg hm hv ⟨v,H,I,r,h⟩ hn hd
variable {a b:Expr} {ta tb:TE} {pos:Pos}
variable {tA zV:TT} {rest:List Expr}
def Vl(t u:TT):TT:=λσ H Q=>t σ H λc H1=>if c=true then u σ H1 Q else Q false H1
def tOr(t u:TT):TT:=λσ H Q=>t σ H λc H1=>if c=true then Q true H1 else u σ H1 Q
def Vt(t:TT):TT:=λσ H Q=>t σ H λc H1=>Q (!c) H1
theorem Jq(ha:PT X a tA):PW X (.BoolOp .And [a] pos) tA:=by
 intro wh pins s σ H Q I h;refine isTrue_and (thn (ha pins s σ H Q I h) λc s1 e=>?_);cases c with
 |true=>exact isTrue_and_nil e
 |false=>exact e
theorem Lv(ha:PT X a tA):PW X (.BoolOp .Or [a] pos) tA:=by
 intro wh pins s σ H Q I h;refine isTrue_or (thn (ha pins s σ H Q I h) λc s1 e=>?_);cases c with
 |false=>exact isTrue_or_nil e
 |true=>exact e
theorem Lu(ha:PT X a tA)(hb:PW X (.BoolOp .And (b::rest) pos) zV):PW X (.BoolOp .And (a::b::rest) pos) (Vl tA zV):=by
 intro wh pins s σ H Q I h;refine isTrue_and (thn (ha pins s σ H _ I h) λc s1 ⟨H1,I1,q1⟩=>?_);cases c with
 |true=>exact hb wh pins s1 σ H1 Q I1 q1
 |false=>exact ⟨H1,I1,q1⟩
theorem Pd(ha:PT X a tA)(hb:PW X (.BoolOp .Or (b::rest) pos) zV):PW X (.BoolOp .Or (a::b::rest) pos) (tOr tA zV):=by
 intro wh pins s σ H Q I h;refine isTrue_or (thn (ha pins s σ H _ I h) λc s1 ⟨H1,I1,q1⟩=>?_);cases c with
 |true=>exact ⟨H1,I1,q1⟩
 |false=>exact hb wh pins s1 σ H1 Q I1 q1
theorem Ls(ha:PT X a tA):PT X (.UnaryOp .Not a pos) (Vt tA):=by
 intro pins s σ H Q I h;exact isTrue_not (ha pins s σ H (λc H1=>Q (!c) H1) I h)
def Pu(ta tb:TE):TE:=λσ H Q=>ta σ H λx H1=>∃c,x= .bl c∧if c=true then tb σ H1 Q else Q (.bl false) H1
def Vu(ta tb:TE):TE:=λσ H Q=>ta σ H λx H1=>∃c,x= .bl c∧if c=true then Q (.bl true) H1 else tb σ H1 Q
def PC(ta:TE):TE:=λσ H Q=>ta σ H λx H1=>∃c,x= .bl c∧Q (.bl (!c)) H1
theorem Lp{op}{t:TE}(h:PE X a t):PE X (.BoolOp op [a] pos) t:=λpins s σ H Q I hw=>BoolOp_one (h pins s σ H Q I hw)
theorem Li(ha:PE X a ta)(hb:PE X (.BoolOp .And (b::rest) pos) tb):PE X (.BoolOp .And (a::b::rest) pos) (Pu ta tb):=by
 intro pins s σ H Q I h;refine BoolOp_and (thn (ha pins s σ H _ I h) λv s1 ⟨x,H1,I1,r1,q1⟩=>?_);obtain ⟨c,rfl,q1⟩:=q1;cases r1;refine wpAny_truthy_bool ?_;cases c with
 |true=>exact hb pins s1 σ H1 Q I1 q1
 |false=>exact ⟨.bl false,H1,I1,rfl,q1⟩
theorem O9(ha:PE X a ta)(hb:PE X (.BoolOp .Or (b::rest) pos) tb):PE X (.BoolOp .Or (a::b::rest) pos) (Vu ta tb):=by
 intro pins s σ H Q I h;refine BoolOp_or (thn (ha pins s σ H _ I h) λv s1 ⟨x,H1,I1,r1,q1⟩=>?_);obtain ⟨c,rfl,q1⟩:=q1;cases r1;refine wpAny_truthy_bool ?_;cases c with
 |false=>exact hb pins s1 σ H1 Q I1 q1
 |true=>exact ⟨.bl true,H1,I1,rfl,q1⟩
theorem Lo(ha:PE X a ta):PE X (.UnaryOp .Not a pos) (PC ta):=by
 intro pins s σ H Q I h;refine UnaryOp_ (thn (ha pins s σ H _ I h) λv s1 ⟨x,H1,I1,r1,q1⟩=>?_);obtain ⟨c,rfl,q1⟩:=q1;cases r1;exact not_of (wpAny_truthy_bool ⟨.bl (!c),H1,I1,rfl,q1⟩)
end
def cp(K:PySem.W.Frag)(H:Hp)(a:Addr)(xs:List V):Prop:=
 Rd H a (.lst xs)∨
  ∃(o:Obj)(its:Array Value)(n:Nat),K.lookup a=some o∧o.cls= .type "list"∧o.dict=none∧o.data= .seq its n∧its.size≤sizeLine∧Vals xs its.toList
def fR(K:PySem.W.Frag)(H:Hp)(a:Addr)(xs:List V):Prop:=
 Rd H a (.tup xs)∨
  ∃(o:Obj)(its:Array Value)(n:Nat),K.lookup a=some o∧o.cls= .type "tuple"∧o.data= .seq its n∧its.size≤sizeLine∧Vals xs its.toList
def P2:Value→Option V
 | .none=>some .bf
 | .bool b=>some (.bl b)
 | .int i _=>some (.int i)
 | .str x _=>some (.str x)
 | .bytes b _=>some (.Fx b)
 | .float b _=>some (.CK b)
 | .ref a=>some (.ref a)
 | .type n=>some (.ty n)
 |_=>none
theorem RelV.abs{x:V}{u:Value}(r:RelV x u):P2 u=some x:=by
 cases x with
 |bf=>cases r;rfl
 |bl _=>cases r;rfl
 |int _=>obtain ⟨t,rfl⟩:=r;rfl
 |str _=>obtain ⟨t,rfl⟩:=r;rfl
 |Fx _=>obtain ⟨t,rfl⟩:=r;rfl
 |CK _=>obtain ⟨t,rfl⟩:=r;rfl
 |ref _=>cases r;rfl
 |ty _=>cases r;rfl
theorem RelV.inj{x y:V}{u:Value}(r:RelV x u)(q:RelV y u):x=y:=Option.some.inj (r.abs.symm.trans q.abs)
theorem Vals.inj:∀{xs ys:List V}{us:List Value},Vals xs us→Vals ys us→xs=ys
 |_,_,_, .nil, .nil=>rfl
 |_,_,_, .cons r t, .cons r' t'=>by rw [r.inj r',Vals.inj t t']
section
variable {X:Cx} {pins:List (Addr×Obj)} {σ:St} {H:Hp} {s:Shared} {a:Addr} {xs ys:List V}
theorem cp.of{K:PySem.W.Frag}(h:H a=some (.lst xs)):cp K H a xs:= .inl (.inl h)
theorem fR.of{K:PySem.W.Frag}(h:H a=some (.tup xs)):fR K H a xs:= .inl (.inl h)
theorem Inv.list(I:Inv X pins σ H s)(h:cp X.K H a xs):∃its:List Value,Vals xs its∧PlainL s.heap a its.toArray∧xs.length≤sizeLine:=by
 rcases h with h| ⟨o,its,n,hk,hc,hd,hs,hz,r⟩
 ·obtain ⟨z,its,n,r,e⟩:=h.ok I.hok
  exact ⟨its,r,⟨_,n,e,rfl,rfl,rfl⟩,z⟩
 ·refine ⟨its.toList,r,⟨o,n,I.gT a o hk,hc,hd,by simpa using hs⟩,?_⟩
  have e:=r.length;simp only [dA] at e;omega
theorem Inv.tuple(I:Inv X pins σ H s)(h:fR X.K H a xs):∃its:List Value,Vals xs its∧IsTup s.heap a its.toArray∧xs.length≤sizeLine:=by
 rcases h with h| ⟨o,its,n,hk,hc,hs,hz,r⟩
 ·obtain ⟨z,its,r,p⟩:=h.ok I.hok
  exact ⟨its,r,p,z⟩
 ·refine ⟨its.toList,r,⟨o,I.gT a o hk,hc,n,by simpa using hs⟩,?_⟩
  have e:=r.length;simp only [dA] at e;omega
theorem Inv.w6(I:Inv X pins σ H s)(h:cp X.K H a xs)(h':cp X.K H a ys):xs=ys:=by
 obtain ⟨its,r,⟨o,n,e,_,_,d⟩,_⟩:=I.list h;obtain ⟨its',r',⟨o',n',e',_,_,d'⟩,_⟩:=I.list h';rw [e] at e';cases e';rw [d] at d'
 injection d' with d1 _
 have:its=its':=by simpa using congrArg Array.toList d1
 subst this;exact r.inj r'
end
abbrev Cx.n0(X:Cx)(E:Value→Shared→Prop):Cx:={X with xe:=E}
abbrev Cx.jq(X:Cx):Cx:=X.n0 λ_ _=>False
theorem Cx.Ok.n0{X:Cx}(ok:X.Ok)(E:Value→Shared→Prop):(X.n0 E).Ok:=
 ⟨ok.mod,ok.kind,ok.glob,ok.blt,ok.above,ok.inj,ok.has,ok.cab,ok.hd,ok.frames,ok.stk,ok.exf,ok.bs,ok.bsz,ok.noex,ok.exfs,ok.funs,ok.frf⟩
theorem Cx.Ok.jf{X:Cx}{E:Value→Shared→Prop}(ok:(X.n0 E).Ok):X.Ok:=
 ⟨ok.mod,ok.kind,ok.glob,ok.blt,ok.above,ok.inj,ok.has,ok.cab,ok.hd,ok.frames,ok.stk,ok.exf,ok.bs,ok.bsz,ok.noex,ok.exfs,ok.funs,ok.frf⟩
section
variable {X:Cx} {pins:List (Addr×Obj)} {σ:St} {H:Hp} {s:Shared} {E:Value→Shared→Prop}
theorem Inv.n0(I:Inv X pins σ H s)(E:Value→Shared→Prop):Inv (X.n0 E) pins σ H s:=⟨I.ok.n0 E,I.os,I.bare,I.base,I.loc,I.cell,I.free,I.freeC,I.pin,I.hok,I.len⟩
theorem Inv.jf(I:Inv (X.n0 E) pins σ H s):Inv X pins σ H s:=⟨I.ok.jf,I.os,I.bare,I.base,I.loc,I.cell,I.free,I.freeC,I.pin,I.hok,I.len⟩
theorem SP.jf{D:Ends}{f:Flow}{s':Shared}(h:SP (X.n0 E) pins D f s'):SP X pins D f s':=by
 cases f with
 |next=>obtain ⟨aw,H',I,q⟩:=h;exact ⟨aw,H',I.jf,q⟩
 |brk=>obtain ⟨aw,H',I,q⟩:=h;exact ⟨aw,H',I.jf,q⟩
 |cont=>obtain ⟨aw,H',I,q⟩:=h;exact ⟨aw,H',I.jf,q⟩
 |ret u=>obtain ⟨v,aw,H',I,r,q⟩:=h;exact ⟨v,aw,H',I.jf,r,q⟩
theorem lD.jq{st:List Stmt}{t:TS}(h:lD X.jq st t):lD X st t:=λpins s σ H D I hw=>
 wpAny_mono (h pins s σ H D (I.n0 _) hw) (λ_ _ q=>q.jf) λ_ _ z=>False.elim z
end
section
variable {X:Cx} {st:Stmt} {rest:List Stmt} {t u:TS} {e:Expr} {te:TE} {pos:Pos}
def PB:TS:=λD σ H=>D.nx σ H
def Vw(t u:TS):TS:=λD σ H=>t {D with nx:=u D} σ H
theorem Jl:lD X [] PB:=λ_ _ σ H _ I h=>wpAny_execs_nil ⟨σ,H,I,h⟩
theorem jR(h1:PS X st t)(h2:lD X rest u):lD X (st::rest) (Vw t u):=by
 intro pins s σ H D I h;refine wpAny_execs_cons (thn (h1 pins s σ H {D with nx:=u D} I h) λf s1 q=>?_)
 cases f with
 |next=>
  obtain ⟨aw,H',I',q⟩:=q;exact h2 pins s1 aw H' D I' q
 |ret v=>exact q
 |brk=>exact q
 |cont=>exact q
theorem BP(h1:PS X st t):lD X [st] t:=by
 intro pins s σ H D I h;refine wpAny_execs_cons (thn (h1 pins s σ H D I h) λf s1 q=>?_);cases f with
 |next=>exact wpAny_execs_nil q
 |ret v=>exact q
 |brk=>exact q
 |cont=>exact q
def LL:TS:=λD σ H=>D.bk σ H
theorem Gn:PS X (.Break pos) LL:=λ_ _ σ H _ I h=>wpAny_Break ⟨σ,H,I,h⟩
theorem Inv.quiet{pins:List (Addr×Obj)}{σ:St}{H:Hp}{s:Shared}(I:Inv X pins σ H s):interactive X.env=false:=by simp [interactive,I.ok.kind]
def Py(te:TE):TS:=λD σ H=>te σ H λ_ H1=>D.nx σ H1
theorem qa(he:PE X e te)(hs:swapsWith e none pos.line X.env=pure false:=by rfl):PS X (.Expr e pos) (Py te):=by
 intro pins s σ H D I h;exact wpAny_Expr_any (thn (he pins s σ H _ I h) λv s1 ⟨x,H1,I1,r1,q1⟩=>⟨σ,H1,I1,q1⟩) I.quiet hs
def Vv(te:TE):TS:=λD σ H=>te σ H D.rt
theorem zI(he:PE X e te):PS X (.Return (some e) pos) (Vv te):=by
 intro pins s σ H D I h;exact wpAny_Return_some (thn (he pins s σ H _ I h) λv s1 ⟨x,H1,I1,r1,q1⟩=>⟨x,σ,H1,I1,r1,q1⟩)
def Vr(c:TT)(t u:TS):TS:=λD σ H=>c σ H λb H1=>if b=true then t D σ H1 else u D σ H1
theorem Pc{c:Expr}{a b:List Stmt}{tc:TT}(hc:PT X c tc)(ha:lD X a t)(hb:lD X b u):PS X (.If c a b pos) (Vr tc t u):=by
 intro pins s σ H D I h;refine wpAny_If (thn (hc pins s σ H _ I h) λd s1 ⟨H1,I1,q1⟩=>?_);cases d with
 |true=>exact ha pins s1 σ H1 D I1 q1
 |false=>exact hb pins s1 σ H1 D I1 q1
def LN:TS:=λ_ _ _=>False
theorem Gp:PS X st LN:=λ_ _ _ _ _ _ h=>h.elim
end
abbrev TG:=V→St→Hp→(St→Hp→Prop)→Prop
abbrev vP:=List V→St→Hp→(St→Hp→Prop)→Prop
def PG(X:Cx)(target:Expr)(t:TG):Prop:=
 ∀(pins:List (Addr×Obj))(s:Shared)(σ:St)(H:Hp)(v:V)(u:Value)(Q:St→Hp→Prop),Inv X pins σ H s→RelV v u→t v σ H Q→
  wpAny (model X.prog X.w) X.A (assign target X.env u) (λ_ s'=>∃aw H',Inv X pins aw H' s'∧Q aw H') X.xe s
def yI(X:Cx)(ts:List Expr)(t:vP):Prop:=
 ∀(pins:List (Addr×Obj))(s:Shared)(σ:St)(H:Hp)(vs:List V)(us:List Value)(Q:St→Hp→Prop),Inv X pins σ H s→Vals vs us→t vs σ H Q→
  wpAny (model X.prog X.w) X.A (assignInOrder ((assignEach ts X.env).map (·.2)) us) (λ_ s'=>∃aw H',Inv X pins aw H' s'∧Q aw H') X.xe s
abbrev GY:=V→V→V→Hp→(Hp→Prop)→Prop
def LY(X:Cx)(t:GY):Prop:=
 ∀(pins:List (Addr×Obj))(s:Shared)(σ:St)(H:Hp)(o i v:V)(ov iv u:Value)(Q:Hp→Prop),Inv X pins σ H s→RelV o ov→RelV i iv→RelV v u→t o i v H Q→
  wpAny (model X.prog X.w) X.A (setItem ov iv u) (λ_ s'=>∃H',Inv X pins σ H' s'∧Q H') X.xe s
section
variable {X:Cx} {pos:Pos}
def HL(i:Nat):TG:=λv σ H Q=>Q (σ.set i (some v)) H
theorem BK{i:Nat}{x:Str}(hN:X.N.Nodup)(hi:X.N[i]? =some x)(hx:Loc X.env.scope x)(hf:X.fn x=true∨X.env.scope.names.lookup x=some .local:=by first|exact .inl rfl|exact .inr rfl|assumption):PG X (.Name x pos) (HL i):=by
 intro pins s σ H v u Q I r h;exact wpAny_assign_Name (nj I hN hi hx r (λs' I'=>⟨_,H,I',h⟩) hf)
def RG:vP:=λvs σ H Q=>vs= []∧Q σ H
def N0(t:TG)(u:vP):vP:=λvs σ H Q=>∃v r,vs=v::r∧t v σ H λaw H'=>u r aw H' Q
theorem BL:yI X [] RG:=by
 intro pins s σ H vs us Q I r h;obtain ⟨e,h⟩:=h;subst e;cases r;exact assignInOrder_nil ⟨σ,H,I,h⟩
theorem xg{e:Expr}{es:List Expr}{t:TG}{u:vP}(h1:PG X e t)(h2:yI X es u)
  (hs:(assignEach (e::es) X.env).map (·.2)=assign e X.env::(assignEach es X.env).map (·.2):=by rfl):yI X (e::es) (N0 t u):=by
 intro pins s σ H vs us Q I r h;obtain ⟨v,vr,e1,h⟩:=h;subst e1;cases r with
 |cons r rr=>
  rw [hs];refine assignInOrder_cons (thn (h1 pins s σ H _ _ _ I r h) λ_ s1 ⟨Et,H1,I1,q1⟩=>?_);exact h2 pins s1 Et H1 _ _ Q I1 rr q1
def RJ(K:PySem.W.Frag)(n:Nat)(t:vP):TG:=λv σ H Q=>∃a xs,v= .ref a∧fR K H a xs∧xs.length=n∧t xs σ H Q
theorem E8{es:List Expr}{k:Nat}{t:vP}{n:Nat}(hc:X.calm=true)(h:yI X es t)
  (hn:(assignEach es X.env).length=n:=by rfl) (jG:(assignEach es X.env).findIdx? (·.1)=none:=by rfl):PG X (.Tuple es k pos) (RJ X.K n t):=by
 intro pins s σ H v u Q I r hw;obtain ⟨a,xs,e1,hq,hl,hw⟩:=hw;subst e1;cases r;obtain ⟨its,rv,ht,hz⟩:=I.tuple hq;refine assign_Tuple_tuple (I.ok.hd hc) ht (by simp [hn,←hl,rv.length]) jG λh' hx=>?_
 have I1:Inv X pins σ H {s with heap:=h'}:=I.kept (t':=s.toks) λb o e=>hx b o (bQ (Heap.lt_size e)) e
 exact h pins _ σ H xs _ Q I1 (by simpa using rv) hw
def RH(to ti:TE)(t:GY):TG:=λv σ H Q=>to σ H λo H1=>ti σ H1 λi H2=>t o i v H2 λH3=>Q σ H3
theorem E7{o i:Expr}{to ti:TE}{t:GY}(ho:PE X o to)(hi:PE X i ti)(hs:LY X t)
  (ha:∀v,assign (.Subscript o i pos) X.env v=(do
   let ov ←holding [v] (eval o X.env)
   let iv ←holding [v,ov] (eval i X.env)
   standAt pos
   holding [v,ov,iv] (setItem ov iv v)
   release [v,ov,iv] []):=by intro _;rfl):PG X (.Subscript o i pos) (RH to ti t):=by
 intro pins s σ H v u Q I r h;rw [ha];refine wpAny_bind (wpAny_holding (thn (ho pins s σ H _ I h) λov s1 ⟨x,H1,I1,r1,q1⟩=>?_));refine wpAny_bind (wpAny_holding (thn (hi pins s1 σ H1 _ I1 q1) λiv s2 ⟨y,H2,I2,r2,q2⟩=>?_));refine wpAny_bind (wpAny_standAt (wpAny_bind (wpAny_holding (thn (hs pins s2 σ H2 x y v ov iv u _ I2 r1 r2 r q2) λ_ s3 ⟨H3,I3,q3⟩=>?_))));exact wpAny_release ⟨σ,H3,I3,q3⟩
def MU(te:TE)(g:TG):TS:=λD σ H=>te σ H λx H1=>g x σ H1 D.nx
theorem zH{tg e:Expr}{te:TE}{g:TG}(he:PE X e te)(hg:PG X tg g)(hs:swapsWithSole [tg] e pos.line X.env=pure false:=by rfl)(hw:swappedStores [tg] e X.env=pure none:=by rfl)
  (h1:(assignEach [tg] X.env).map (·.2)= [assign tg X.env]:=by rfl):PS X (.Assign [tg] e pos) (MU te g):=by
 intro pins s σ H D I h;refine wpAny_Assign_stores (thn (he pins s σ H _ I h) λv s1 ⟨x,H1,I1,r1,q1⟩=>?_) hs hw;rw [h1];exact thn (hg pins s1 σ H1 x v _ I1 r1 q1) λ_ s2 q=>q
theorem qb{i:Nat}{x:Str}{e:Expr}{te:TE}{pos':Pos}(hN:X.N.Nodup)(hi:X.N[i]? =some x)(hx:Loc X.env.scope x)(he:PE X e te)(hs:swapsWith e (some (.Name x pos')) pos.line X.env=pure false:=by rfl)(hf:X.fn x=true∨X.env.scope.names.lookup x=some .local:=by first|exact .inl rfl|exact .inr rfl|assumption):
  PS X (.Assign [.Name x pos'] e pos) (MU te (HL i)):=by
 intro pins s σ H D I h;refine wpAny_Assign_Name (thn (he pins s σ H _ I h) λv s1 ⟨y,H1,I1,r1,q1⟩=>?_) hs;exact nj I1 hN hi hx r1 (λs2 I2=>⟨_,H1,I2,q1⟩) hf
end
section
variable {X:Cx} {pos:Pos}
def LO(c:TT)(tb:TS):TS:=λD σ H=>∃W:Nat→St→Hp→Prop,(∃m,W m σ H)∧∀m σ H,W m σ H→
 c σ H λb H1=>if b=true then ∃N:St→Hp→Prop,(∀aw H',N aw H'→∃m',m'<m∧W m' aw H')∧tb {D with nx:=N,ct:=N,bk:=D.nx} σ H1 else D.nx σ H1
theorem Gq{c:Expr}{body:List Stmt}{tc:TT}{tb:TS}(hp:PassesOwn (model X.prog X.w) X.A X.env X.xe)(hc:PT X c tc)(hb:lD X body tb):PS X (.While c body [] pos) (LO tc tb):=by
 intro pins s σ H D I h;obtain ⟨W,⟨m0,w0⟩,turn⟩:=h;refine wpAny_While (codeAny_whileLoop (λn s'=>∃aw H',Inv X pins aw H' s'∧W n aw H') ?_ m0 ⟨σ,H,I,w0⟩);rintro n s1 ⟨Et,H1,I1,w1⟩;refine wpAny_passesOwn hp (thn (hc pins s1 Et H1 _ I1 (turn n Et H1 w1)) λb s2 ⟨H2,I2,q2⟩=>?_);cases b with
 |true=>
  obtain ⟨N,hN,q2⟩:=q2;rw [if_pos rfl];refine wpAny_passesOwn hp (thn (hb pins s2 Et H2 _ I2 q2) λf s3 q3=>?_);cases f with
  |next=>
   obtain ⟨td,H3,I3,n3⟩:=q3;obtain ⟨m',hm,w3⟩:=hN td H3 n3;exact ⟨m',hm,td,H3,I3,w3⟩
  |cont=>
   obtain ⟨td,H3,I3,n3⟩:=q3;obtain ⟨m',hm,w3⟩:=hN td H3 n3;exact ⟨m',hm,td,H3,I3,w3⟩
  |brk=>exact q3
  |ret v=>exact q3
 |false=>
  rw [if_neg cN];exact wpAny_execs_nil ⟨Et,H2,I2,q2⟩
end
structure It where
 go:Nat→Hp→Prop
 yld:Nat→Hp→V→Hp→Prop
 stop:Nat→Hp→Prop
def e7(X:Cx)(pins:List (Addr×Obj))(H:Hp)(b:Addr):Prop:=
 H b=none∧b≠X.env.locals∧b∉X.fs∧(b∈X.ex∨X.s₀.heap.objs.size≤b)∧(∀x c,X.env.cells.lookup x=some c→c≠b)∧∀p∈X.pn++pins,p.1≠b
theorem Inv.HJ{X:Cx}{pins:List (Addr×Obj)}{σ:St}{H H':Hp}{s:Shared}{b:Addr}(I:Inv X pins σ H s)(hb:s.heap.objs.size≤b)(hn:H' b=none):e7 X pins H' b:=by
 refine ⟨hn,Nat.ne_of_gt (gf I.lt hb),I.IH hb, .inr (kX I.sz hb),λx c e z=>?_,λp hp z=>?_⟩
 ·obtain ⟨v,q⟩:=I.cell x c e
  exact absurd (gf q.lt (by rw [z];exact hb)) (gP _)
 ·exact absurd (gf (Heap.lt_size (I.pin p hp).1) (by rw [z];exact hb)) (gP _)
structure Turn (P:Program) (w:World) (K:PySem.W.Frag) (tg:Expr) (J:It) (fp:List Addr) (it:Addr) (tn:Nat→Heap→Prop):Prop where
 mem:it∈fp
 obj:∀i h,tn i h→∀b∈fp,∃o,h.get? b=some o∧∀v,o.data≠ .cell v
 keep:∀i h h',tn i h→(∀b∈fp,∀o,h.get? b=some o→h'.get? b=some o)→tn i h'
 item:∀(X:Cx),X.prog=P→X.w=w→X.K=K→X.calm=true→∀(i:Nat)(pins:List (Addr×Obj))(s:Shared)(σ:St)(H:Hp)(E:Value→Shared→Prop),Inv X pins σ H s→(∀b∈fp,e7 X pins H b)→tn i s.heap→J.go i H→
  wpAny (model P w) X.A (pyNext (.ref it)) (λr s1=>∃u,r=some u∧
   wpAny (model P w) X.A (letOwnedTupleGo tg (.ref it) u) (λ_ s2=>∃x H',Inv X pins σ H' s2∧RelV x u∧J.yld i H x H'∧tn (i+1) s2.heap∧∀b∈fp,H' b=none) E s1) E s
 done:∀(X:Cx),X.prog=P→X.w=w→X.K=K→X.calm=true→∀(i:Nat)(pins:List (Addr×Obj))(s:Shared)(σ:St)(H:Hp)(E:Value→Shared→Prop),Inv X pins σ H s→(∀b∈fp,e7 X pins H b)→tn i s.heap→J.stop i H→
  wpAny (model P w) X.A (pyNext (.ref it)) (λr s1=>r=none∧Inv X pins σ H s1) E s
 self:∀(A:Around)(i:Nat)(s:Shared)(Q:Value→Shared→Prop)(E:Value→Shared→Prop),tn i s.heap→Q (.ref it) s→wpAny (model P w) A (pyIter (.ref it)) Q E s
abbrev TI:=St→Hp→(It→Hp→Prop)→Prop
def PZ(X:Cx)(pins:List (Addr×Obj))(σ:St)(tg:Expr)(R:It→Hp→Prop)(F1:Value)(s2:Shared):Prop:=
 ∃(it:Addr)(fp:List Addr)(tn:Nat→Heap→Prop)(J:It)(H':Hp),F1= .ref it∧Inv X pins σ H' s2∧Turn X.prog X.w X.K tg J fp it tn∧tn 0 s2.heap∧(∀b∈fp,e7 X pins H' b)∧R J H'
def PI(X:Cx)(tg iter:Expr)(wi:TI):Prop:=
 ∀(pins:List (Addr×Obj))(s:Shared)(σ:St)(H:Hp)(R:It→Hp→Prop),Inv X pins σ H s→wi σ H R→
  wpAny (model X.prog X.w) X.A (eval iter X.env) (λv s1=>wpAny (model X.prog X.w) X.A (pyIter v) (PZ X pins σ tg R) X.xe s1) X.xe s
theorem HP{M:Model}{A:Around}{E:Value→Shared→Prop}{s:Shared}{tg:Expr}{it:Addr}{u:Value}{o:Obj}{n:String}{vs:Array Value}{Q:Unit→Shared→Prop}(ho:s.heap.get? it=some o)(hc:o.cls= .type n)(hd:o.data= .fields vs)
  (hn: ["enumerate","zip","dict_itemiterator","dict_reverseitemiterator","odict_iterator","itertools.zip_longest","itertools.pairwise"].contains n=false) (hQ:Q () s):wpAny M A (letOwnedTupleGo tg (.ref it) u) Q E s:=by
 unfold letOwnedTupleGo
 cases tg<;>first
  |exact wpAny_pure hQ
  | (cases u<;>first
    |exact wpAny_pure hQ
    | (refine wpAny_bind (wpAny_load ho ?_)
       rw [hc,hd];show wpAny M A (if (["enumerate","zip","dict_itemiterator","dict_reverseitemiterator","odict_iterator","itertools.zip_longest","itertools.pairwise"].contains n&&vs[0]? ==some (rawInt _))=true then _ else _) Q E s;rw [if_neg (by intro h;rw [hn,vw] at h;cases h)]
       exact wpAny_pure hQ))
def M5(K:PySem.W.Frag)(a:Addr):It:=
 ⟨λi H=>∃xs x,cp K H a xs∧xs[i]? =some x,λi H x H'=>H'=H∧∀xs,cp K H a xs→xs[i]? =some x,λi H=>∃xs,cp K H a xs∧xs.length≤i⟩
def GQ(lo:Int)(n:Nat):It:=⟨λi _=>i<n,λi H x H'=>H'=H∧x= .int (lo+i),λi _=>n≤i⟩
theorem Ei{P:Program}{w:World}{K:PySem.W.Frag}{tg:Expr}(a it:Addr):Turn P w K tg (M5 K a) [it] it (λi h=>h.IsListIter it a i) where
 mem:=by simp
 obj:=λi h st b hb=>by
  have e:b=it:=by simpa using hb
  subst e;obtain ⟨o,e,c,d⟩:=st;exact ⟨o,e,λv z=>by rw [d] at z;cases z⟩
 keep:=λi h h' st k=>st.at λo e=>k it (by simp) o e
 item:=by
  intro X hP hw hK hc i pins s σ H E I hf st hg;subst hP hw hK;obtain ⟨xs,x,hq,hx⟩:=hg;obtain ⟨its,rv,p,hz⟩:=I.list hq;obtain ⟨u,hu,ru⟩:=rv.get hx;obtain ⟨f0,f1,f2,f3,f4,f5⟩:=hf it (by simp)
  refine wpAny_pyNext_list_item st p.isList (x:=u) (by simpa using hu) λh' ai sb=>?_
  have I1:Inv X pins σ H {s with heap:=h'}:=I.turned (t':=s.toks) (λb o hb e=>(sb.2 b hb).trans e) f0 f1 f3 f4 f5
  obtain ⟨o,e,c,d⟩:=id ai;exact ⟨u,rfl,HP (s:={s with heap:=h'}) e c d (by decide) ⟨x,H,I1,ru,⟨rfl,λys hy=>by rw [I.w6 hy hq];exact hx⟩,ai,λb hb=>(hf b hb).1⟩⟩
 done:=by
  intro X hP hw hK hc i pins s σ H E I hf st hg;subst hP hw hK;obtain ⟨xs,hq,hx⟩:=hg;obtain ⟨its,rv,p,hz⟩:=I.list hq;obtain ⟨f0,f1,f2,f3,f4,f5⟩:=hf it (by simp)
  have hl:=rv.length;exact wpAny_pyNext_list_end (I.ok.hd hc) st p.isList (by simp;omega) λh' eb=>⟨rfl,I.turned (t':=s.toks) (λb o hb e=>eb b o hb e) f0 f1 f3 f4 f5⟩
 self:=λ_ _ _ _ _ st h=>wpAny_pyIter_listiter st h
theorem Cd{P:Program}{w:World}{K:PySem.W.Frag}{tg:Expr}(it:Addr)(lo:Int)(n:Nat):Turn P w K tg (GQ lo n) [it] it (λi h=>IsRangeIter h it (lo+(i:Nat)*1) ((n:Int)-(i:Nat)) 1) where
 mem:=by simp
 obj:=λi h st b hb=>by
  have e:b=it:=by simpa using hb
  subst e
  exact ⟨_,st,λv z=>by
   have z':Data.fields _=Data.cell v:=z;cases z'⟩
 keep:=λi h h' st k=>k it (by simp) _ st
 item:=by
  intro X hP hw hK hc i pins s σ H E I hf st hg;subst hP hw hK;obtain ⟨f0,f1,f2,f3,f4,f5⟩:=hf it (by simp)
  have W:=Walks.range (prog:=X.prog) (w:=X.w) (I.ok.hd hc) it lo 1 n;refine W.item i s _ _ hg st λv h' tk hv ai kk=>?_;obtain ⟨t,rfl⟩:=hv;have I1:Inv X pins σ H {s with heap:=h',toks:=tk}:=I.turned (λb o hb e=>kk b o (by simpa using hb) e) f0 f1 f3 f4 f5
  refine ⟨_,rfl,HP (s:={s with heap:=h',toks:=tk}) (n:="range_iterator") ai rfl rfl (by decide) ⟨.int (lo+i),H,I1,⟨t,?_⟩,⟨rfl,rfl⟩,ai,λb hb=>(hf b hb).1⟩⟩
  rw [Int.mul_one]
 done:=by
  intro X hP hw hK hc i pins s σ H E I hf st hg;subst hP hw hK;obtain ⟨f0,f1,f2,f3,f4,f5⟩:=hf it (by simp)
  exact wpAny_pyNext_range_end (I.ok.hd hc) st (by have:n≤i:=hg;omega) λh' eb=>⟨rfl,I.turned (t':=s.toks) (λb o hb e=>eb b o hb e) f0 f1 f3 f4 f5⟩
 self:=λ_ _ _ _ _ st h=>wpAny_pyIter_rangeiter st h
section
variable {X:Cx} {tg:Expr}
def OM(K:PySem.W.Frag)(tl:TE):TI:=λσ H R=>tl σ H λx H1=>∃a,x= .ref a∧(∃xs,cp K H1 a xs)∧R (M5 K a) H1
theorem Jg{l:Expr}{tl:TE}(hl:PE X l tl):PI X tg l (OM X.K tl):=by
 intro pins s σ H R I h;refine thn (hl pins s σ H _ I h) λv s1 ⟨x,H1,I1,r1,q1⟩=>?_;obtain ⟨a,e,⟨xs,hq⟩,q⟩:=q1;subst e;cases r1;obtain ⟨its,rv,p,hz⟩:=I1.list hq;refine wpAny_pyIter_list p.isList ?_;refine ⟨s1.heap.objs.size,[s1.heap.objs.size],_,_,H1,rfl,I1.kept (t':=s1.toks) λb o e=>Heap.get?_push_of_some _ e,Ei a _,⟨_,Heap.get?_push_size _ rfl,rfl,rfl⟩,λb hb=>?_,q⟩;have e:b=s1.heap.objs.size:=by simpa using hb
 subst e;exact I1.HJ (bx _) (I1.hok.fresh (bx _))
theorem xp{pins:List (Addr×Obj)}{σ:St}{H:Hp}{s:Shared}{R:It→Hp→Prop}{E:Value→Shared→Prop}{lo hi:Int}{t u v:Tok}{tk:Nat}(I:Inv X pins σ H s)(h1: -(2^62)≤lo)(h2:lo<2^62)(h3: -(2^62)≤hi)(h4:hi<2^62)
  (q:R (GQ lo (hi-lo).toNat) H):wpAny (model X.prog X.w) X.A (pyIter (.ref s.heap.objs.size)) (PZ X pins σ tg R) E {s with heap:=s.heap.push {cls:= .type "range",data:= .fields #[.int lo t, .int hi u, .int 1 v]},toks:=tk}:=by
 refine wpAny_pyIter_range (IsRange.new ..) (small_one h1 h2 h3 h4) ?_;have I1:Inv X pins σ H {s with heap:=s.heap.push {cls:= .type "range",data:= .fields #[.int lo t, .int hi u, .int 1 v]},toks:=tk}:=I.kept λb o e=>Heap.get?_push_of_some _ e
 refine ⟨(s.heap.push {cls:= .type "range",data:= .fields #[.int lo t, .int hi u, .int 1 v]}).objs.size,[(s.heap.push {cls:= .type "range",data:= .fields #[.int lo t, .int hi u, .int 1 v]}).objs.size],_,_,H,rfl,
  I1.kept (t':=tk) λb o e=>Heap.get?_push_of_some _ e,Cd _ lo (hi-lo).toNat,?_,λb hb=>?_,q⟩
 ·have e1:lo+((0:Nat):Int)*1=lo:=by simp
  have e2:(((hi-lo).toNat:Nat):Int)-((0:Nat):Int)=Builtin.Range.rangeSize lo hi 1:=by rw [rangeSize_one];split<;>omega
  show IsRangeIter _ _ (lo+((0:Nat):Int)*1) ((((hi-lo).toNat:Nat):Int)-((0:Nat):Int)) 1;rw [e1,e2];exact Heap.get?_push_size _ rfl
 ·have e:b=(s.heap.push {cls:= .type "range",data:= .fields #[.int lo t, .int hi u, .int 1 v]}).objs.size:=by simpa using hb
  subst e;exact I1.HJ (bx _) (I1.hok.fresh (bx _))
def ON(ta:TA):TI:=λσ H R=>ta σ H λvs H1=>∃j:Int,vs= [.int j]∧-(2^62)≤j∧j<2^62∧R (GQ 0 j.toNat) H1
def OO(ta:TA):TI:=λσ H R=>ta σ H λvs H1=>∃i j:Int,vs= [.int i, .int j]∧(-(2^62)≤i∧i<2^62∧-(2^62)≤j∧j<2^62)∧R (GQ i (j-i).toNat) H1
theorem uO{a:Expr}{ta:TA}{p pos:Pos}(hg:Gl X "range")(hm:X.mg "range"=none)(ha:PA X [a] ta)(hs:starEach [a] X.env= [(false,eval a X.env)]:=by rfl):PI X tg (.Call (.Name "range" p) [a] [] pos) (ON ta):=by
 intro pins s σ H R I h;refine Call_ (ic I hg hm boot_range (PyProof.Rows.callWith_type1 (thn (ha pos pins s σ H _ I h) λus s1 ⟨vs,H1,I1,r1,q1⟩=>?_) hs rfl));obtain ⟨j,e,q1,q2,q⟩:=q1;subst e;cases r1 with
 |cons r rr=>
  cases rr;obtain ⟨t,rfl⟩:=r;exact call_range_1 (xp I1 (by omega) (by omega) q1 q2 (by simpa using q))
theorem DR{a b:Expr}{ta:TA}{p pos:Pos}(hg:Gl X "range")(hm:X.mg "range"=none)(ha:PA X [a,b] ta)(hs:starEach [a,b] X.env= [(false,eval a X.env),(false,eval b X.env)]:=by rfl)(iI:starEach [b] X.env= [(false,eval b X.env)]:=by rfl):
  PI X tg (.Call (.Name "range" p) [a,b] [] pos) (OO ta):=by
 intro pins s σ H R I h;refine Call_ (ic I hg hm boot_range (PyProof.Rows.callWith_type1 (thn (ha pos pins s σ H _ I h) λus s1 ⟨vs,H1,I1,r1,q1⟩=>?_) (by rw [hs,iI]) (by rw [iI];rfl)))
 obtain ⟨i,j,e,⟨q1,q2,q3,q4⟩,q⟩:=q1;subst e;cases r1 with
 |cons r rr=>
  cases rr with
  |cons r' rr=>
   cases rr;obtain ⟨t,rfl⟩:=r;obtain ⟨t',rfl⟩:=r';exact call_range_2 (xp I1 q1 q2 q3 q4 q)
def Vq(wi:TI)(g:TG)(tb:TS):TS:=λD σ H=>wi σ H λJ H1=>∃W:Nat→Nat→St→Hp→Prop,(∃m,W 0 m σ H1)∧∀i m σ H,W i m σ H→
 (J.stop i H∧D.nx σ H)∨(J.go i H∧∃N:St→Hp→Prop,(∀aw H',N aw H'→∃m',m'<m∧W (i+1) m' aw H')∧∀x H',J.yld i H x H'→g x σ H' λdY H2=>tb {D with nx:=N,ct:=N,bk:=D.nx} dY H2)
def kr(fp:List Addr)(h:Heap):List (Addr×Obj):=fp.filterMap λb=>(h.get? b).map λo=>(b,o)
theorem dB{fp:List Addr}{h:Heap}{b:Addr}{o:Obj}(hb:b∈fp)(e:h.get? b=some o):(b,o)∈kr fp h:=List.mem_filterMap.mpr ⟨b,hb,by rw [e];rfl⟩
theorem DH{fp:List Addr}{h:Heap}{p:Addr×Obj}(hp:p∈kr fp h):p.1∈fp∧h.get? p.1=some p.2:=by
 obtain ⟨b,hb,e⟩:=List.mem_filterMap.mp hp;cases q:h.get? b with
 |none=>rw [q] at e;cases e
 |some o=>
  rw [q] at e;have e':(b,o)=p:=Option.some.inj e;subst e';exact ⟨hb,q⟩
theorem Inv.pinned{pins:List (Addr×Obj)}{σ:St}{H:Hp}{s:Shared}{fp:List Addr}(I:Inv X pins σ H s)(hf:∀b∈fp,e7 X pins H b)(ho:∀b∈fp,∃o,s.heap.get? b=some o∧∀v,o.data≠ .cell v):Inv X (pins++kr fp s.heap) σ H s:=
 I.jP λp hp=>(cv.mp hp).elim (λz=>I.pin p (fE _ z)) λz=>by
  obtain ⟨hb,e⟩:=DH z;obtain ⟨f0,f1,f2,_⟩:=hf p.1 hb;obtain ⟨o,e',d⟩:=ho p.1 hb;rw [e] at e';cases e';exact ⟨e,f0,f1,f2,d⟩
theorem Inv.iA{pins pl:List (Addr×Obj)}{σ:St}{H:Hp}{s:Shared}(I:Inv X (pins++pl) σ H s):Inv X pins σ H s:=I.jP λp hp=>I.pin p (fE _ (fb _ hp))
theorem Fb{iter:Expr}{body:List Stmt}{wi:TI}{g:TG}{tb:TS}{pos:Pos}(hp:PassesOwn (model X.prog X.w) X.A X.env X.xe)(hc:X.calm=true)(hi:PI X tg iter wi)(hg:PG X tg g)(hb:lD X body tb)
  (hs:∀x,foldedSetIterable iter X.env x=pure x:=by intro _;rfl):PS X (.For tg iter body [] pos) (Vq wi g tb):=by
 intro pins s σ H D I h;refine wpAny_For (thn (hi pins s σ H _ I h) λv s1 h1=>thn h1 λF1 s2 h2=>?_) hs;obtain ⟨it,fp,tn,J,H2,e,I2,T,jA,f2,W,⟨m0,w0⟩,turn⟩:=h2;subst e;have stat:∀{H':Hp},(∀b∈fp,H' b=none)→∀b∈fp,e7 X pins H' b:=λhn b hb=>⟨hn b hb,(f2 b hb).2⟩;refine codeAny_forLoop_any (λn s'=>∃i aw H',Inv X pins aw H' s'∧tn i s'.heap∧(∀b∈fp,H' b=none)∧W i n aw H') ?_ m0 ⟨0,σ,H2,I2,jA,λb hb=>(f2 b hb).1,w0⟩;rintro n s3 ⟨i,td,H3,I3,sU,RF,w3⟩
 rcases turn i n td H3 w3 with ⟨stop,qn⟩ | ⟨go,N,hN,step⟩
 ·refine wpAny_passesOwn hp (thn (T.done X rfl rfl rfl hc i pins s3 td H3 X.xe I3 (stat RF) sU stop) λr s4 ⟨hr,I4⟩=>?_)
  subst hr;exact wpAny_execs_nil ⟨td,H3,I4,qn⟩
 ·refine wpAny_passesOwn hp (thn (T.item X rfl rfl rfl hc i pins s3 td H3 X.xe I3 (stat RF) sU go) λr s4 ⟨u,hr,h4⟩=>?_)
  subst hr;refine wpAny_passesOwn hp (thn h4 λ_ s5 ⟨x,H5,I5,r5,y5,sV,vX⟩=>?_);have GO:=I5.pinned (stat vX) (T.obj _ _ sV);refine wpAny_passesOwn hp (thn (hg _ s5 td H5 x u _ GO r5 (step x H5 y5)) λ_ s6 ⟨σ6,H6,I6,q6⟩=>?_);refine wpAny_passesOwn hp (thn (hb _ s6 σ6 H6 _ I6 q6) λf s7 q7=>?_)
  have again:∀{mS:St}{H7:Hp},Inv X (pins++kr fp s5.heap) mS H7 s7→N mS H7→∃m,m<n∧∃i aw H',Inv X pins aw H' s7∧tn i s7.heap∧(∀b∈fp,H' b=none)∧W i m aw H':=λ {mS H7} I7 n7=>by
   obtain ⟨m',hm,w7⟩:=hN mS H7 n7;refine ⟨m',hm,i+1,mS,H7,I7.iA,T.keep _ _ _ sV λb hb o e=>(I7.pin (b,o) (fE _ (fE _ (dB hb e)))).1,λb hb=>?_,w7⟩;obtain ⟨o,e,d⟩:=T.obj _ _ sV b hb;exact (I7.pin (b,o) (fE _ (fE _ (dB hb e)))).2.1
  cases f with
  |next=>obtain ⟨mS,H7,I7,n7⟩:=q7;exact again I7 n7
  |cont=>obtain ⟨mS,H7,I7,n7⟩:=q7;exact again I7 n7
  |brk=>obtain ⟨mS,H7,I7,q7⟩:=q7;exact ⟨mS,H7,I7.iA,q7⟩
  |ret v=>obtain ⟨x7,mS,H7,I7,r7,q7⟩:=q7;exact ⟨x7,mS,H7,I7.iA,r7,q7⟩
end
abbrev R2:=V→V→Hp→VK→Prop
def OpR(X:Cx)(f:Value→Value→Sem Value)(r:R2):Prop:=
 ∀(pins:List (Addr×Obj))(s:Shared)(σ:St)(H:Hp)(x y:V)(v u:Value)(Q:VK),Inv X pins σ H s→RelV x v→RelV y u→r x y H Q→
  wpAny (model X.prog X.w) X.A (f v u) (EP X pins σ Q) X.xe s
def UnR(X:Cx)(f:Value→Sem Value)(r:V→Hp→VK→Prop):Prop:=
 ∀(pins:List (Addr×Obj))(s:Shared)(σ:St)(H:Hp)(x:V)(v:Value)(Q:VK),Inv X pins σ H s→RelV x v→r x H Q→
  wpAny (model X.prog X.w) X.A (f v) (EP X pins σ Q) X.xe s
def dU(X:Cx)(f:Value)(r:List V→Hp→VK→Prop):Prop:=
 ∀(pins:List (Addr×Obj))(s:Shared)(σ:St)(H:Hp)(xs:List V)(us:List Value)(Q:VK),Inv X pins σ H s→Vals xs us→r xs H Q→
  wpAny (model X.prog X.w) X.A (call f us) (EP X pins σ Q) X.xe s
def P0(X:Cx)(r:V→Hp→(Bool→Hp→Prop)→Prop):Prop:=
 ∀(pins:List (Addr×Obj))(s:Shared)(σ:St)(H:Hp)(x:V)(v:Value)(Q:Bool→Hp→Prop),Inv X pins σ H s→RelV x v→r x H Q→
  wpAny (model X.prog X.w) X.A (truthy v) (TP X pins σ Q) X.xe s
def JS(r:R2)(ta tb:TE):TE:=λσ H Q=>ta σ H λx H1=>tb σ H1 λy H2=>r x y H2 Q
def tUn(r:V→Hp→VK→Prop)(ta:TE):TE:=λσ H Q=>ta σ H λx H1=>r x H1 Q
def rI(C:Int→Int→Prop)(g:Int→Int→V):R2:=λx y H Q=>∃i j,x= .int i∧y= .int j∧C i j∧Q (g i j) H
def zJ(g:Int→Int→V):R2:=λx y H Q=>∃i j,x= .int i∧y= .int j∧Q (g i j) H
def rU(g:Int→V):V→Hp→VK→Prop:=λx H Q=>∃i,x= .int i∧Q (g i) H
section
variable {X:Cx} {a b c:Expr} {ta tb tc:TE} {pos:Pos}
theorem He(ha:PE X a ta)(hb:PE X b tb){pins:List (Addr×Obj)}{s:Shared}{σ:St}{H:Hp}{R:V→V→Hp→Prop}(I:Inv X pins σ H s)
  (h:ta σ H λx H1=>tb σ H1 λy H2=>R x y H2) {Q:Value→Shared→Prop} {f:Value→Value→Sem Value}
  (hf:∀v u s2 x y H2,Inv X pins σ H2 s2→RelV x v→RelV y u→R x y H2→wpAny (model X.prog X.w) X.A (f v u) Q X.xe s2):
  wpAny (model X.prog X.w) X.A (eval a X.env) (λv s₁=>wpAny (model X.prog X.w) X.A (eval b X.env) (λu Fp=>wpAny (model X.prog X.w) X.A (f v u) Q X.xe Fp) X.xe s₁) X.xe s:=by
 refine thn (ha pins s σ H _ I h) λv s1 ⟨x,H1,I1,r1,q1⟩=>?_;refine thn (hb pins s1 σ H1 _ I1 q1) λu s2 ⟨y,H2,I2,r2,q2⟩=>?_;exact hf v u s2 x y H2 I2 r1 r2 q2
theorem DQ{op:Operator}{r:R2}(ho:OpR X (binaryOp op) r)(ha:PE X a ta)(hb:PE X b tb):PE X (.BinOp a op b pos) (JS r ta tb):=by
 intro pins s σ H Q I h;exact wpAny_BinOp (He ha hb I h λv u s2 x y H2 I2 rx ry q=>ho pins s2 σ H2 x y v u Q I2 rx ry q)
theorem Pa{op:UnaryOp}{r:V→Hp→VK→Prop}(ho:UnR X (unaryOp op) r)(ha:PE X a ta):PE X (.UnaryOp op a pos) (tUn r ta):=by
 intro pins s σ H Q I h;exact UnaryOp_ (thn (ha pins s σ H _ I h) λv s1 ⟨x,H1,I1,r1,q1⟩=>ho pins s1 σ H1 x v Q I1 r1 q1)
theorem K8{f:Value→Value→Sem Value}{C:Int→Int→Prop}{g:Int→Int→Int}
  (rule:∀(i j:Int)(t u:Tok)(s:Shared)(Q:Value→Shared→Prop)(E:Value→Shared→Prop),C i j→Q (.int (g i j) s.toks) {s with toks:=s.toks+1}→wpAny (model X.prog X.w) X.A (f (.int i t) (.int j u)) Q E s):
  OpR X f (rI C λi j=> .int (g i j)):=by
 intro pins s σ H x y v u Q I rx ry h;obtain ⟨i,j,rfl,rfl,hc,q⟩:=h;obtain ⟨t,rfl⟩:=rx;obtain ⟨t',rfl⟩:=ry;exact rule i j t t' s _ _ hc ⟨.int (g i j),H,I.tok _,⟨_,rfl⟩,q⟩
theorem MO{f:Value→Value→Sem Value}{g:Int→Int→Int}
  (rule:∀(i j:Int)(t u:Tok)(s:Shared)(Q:Value→Shared→Prop)(E:Value→Shared→Prop),Q (.int (g i j) s.toks) {s with toks:=s.toks+1}→wpAny (model X.prog X.w) X.A (f (.int i t) (.int j u)) Q E s):
  OpR X f (zJ λi j=> .int (g i j)):=by
 intro pins s σ H x y v u Q I rx ry h;obtain ⟨i,j,rfl,rfl,q⟩:=h;obtain ⟨t,rfl⟩:=rx;obtain ⟨t',rfl⟩:=ry;exact rule i j t t' s _ _ ⟨.int (g i j),H,I.tok _,⟨_,rfl⟩,q⟩
theorem IM{f:Value→Value→Sem Value}{g:Int→Int→Bool}
  (rule:∀(i j:Int)(t u:Tok)(s:Shared)(Q:Value→Shared→Prop)(E:Value→Shared→Prop),Q (.bool (g i j)) s→wpAny (model X.prog X.w) X.A (f (.int i t) (.int j u)) Q E s):
  OpR X f (zJ λi j=> .bl (g i j)):=by
 intro pins s σ H x y v u Q I rx ry h;obtain ⟨i,j,rfl,rfl,q⟩:=h;obtain ⟨t,rfl⟩:=rx;obtain ⟨t',rfl⟩:=ry;exact rule i j t t' s _ _ ⟨.bl (g i j),H,I,rfl,q⟩
def LW(i j:Int):Prop:=0<j∧j<1073741824
def LX(i j:Int):Prop:=0≤j∧j≤1000000∧i.natAbs<2^64
def Eu(i j:Int):Prop:=(-(2^64)<i∧i<2^64)∨(-(2^64)<j∧j<2^64)
theorem Eu.ok{i j:Int}(h:Eu i j):IntMulOk i j:=by
 rcases h with ⟨h1,h2⟩ | ⟨h1,h2⟩
 ·exact .of_left (intBits_le_64 h1 h2)
 ·exact .of_right (intBits_le_64 h1 h2)
theorem K9:OpR X (binaryOp .Add) (zJ λi j=> .int (i+j)):=MO λ_ _ _ _ _ _ _ q=>add_int q
theorem Lh:OpR X (binaryOp .Sub) (zJ λi j=> .int (i-j)):=MO λ_ _ _ _ _ _ _ q=>sub_int q
theorem Ld:OpR X (binaryOp .Mult) (rI Eu λi j=> .int (i*j)):=K8 λ_ _ _ _ _ _ _ hc q=>mul_int q hc.ok
theorem IS:OpR X (binaryOp .FloorDiv) (rI LW λi j=> .int (i / j)):=K8 λi j _ _ _ _ _ hc q=>by
 have h1:(0:Int)<j:=hc.1;have h2:j<1073741824:=hc.2;exact floordiv_int (by omega) (by rw [Int.fdiv_eq_ediv_of_nonneg i (by omega)];exact q) (.inl (PyProof.noPylong_small (by omega)))
theorem Lc:OpR X (binaryOp .Mod) (rI (λ_ j=>0<j) λi j=> .int (i%j)):=K8 λi j _ _ _ _ _ hc q=>by
 have h1:(0:Int)<j:=hc;exact mod_int' (by omega) (by rw [Int.fmod_eq_emod_of_nonneg i (by omega)];exact q)
theorem Lf:OpR X (binaryOp .Pow) (rI LX λi j=> .int (i^j.toNat)):=K8 λ_ _ _ _ _ _ _ hc q=>pow_int_small hc.1 hc.2.1 hc.2.2 q
theorem unI{f:Value→Sem Value}{g:Int→Int}
  (rule:∀(i:Int)(t:Tok)(s:Shared)(Q:Value→Shared→Prop)(E:Value→Shared→Prop),Q (.int (g i) s.toks) {s with toks:=s.toks+1}→wpAny (model X.prog X.w) X.A (f (.int i t)) Q E s):
  UnR X f (rU λi=> .int (g i)):=by
 intro pins s σ H x v Q I rx h;obtain ⟨i,rfl,q⟩:=h;obtain ⟨t,rfl⟩:=rx;exact rule i t s _ _ ⟨.int (g i),H,I.tok _,⟨_,rfl⟩,q⟩
theorem LS:UnR X (unaryOp .USub) (rU λi=> .int (-i)):=unI λ_ _ _ _ _ q=>neg_int q
end
section
variable {X:Cx} {a b c:Expr} {ta tb tc:TE} {pos:Pos}
theorem EI{pins:List (Addr×Obj)}{σ:St}{H:Hp}{s:Shared}{Q:VK}{k k':Bool}(I:Inv X pins σ H s)(q:Q (.bl k) H)(e:k=k'):EP X pins σ Q (.bool k') s:=by
 subst e;exact ⟨.bl k,H,I,rfl,q⟩
theorem O3:OpR X (compareOp .Lt) (zJ λi j=> .bl (decide (i<j))):=IM λ_ _ _ _ _ _ _ q=>lt_int q
theorem O2:OpR X (compareOp .LtE) (zJ λi j=> .bl (decide (i≤j))):=IM λ_ _ _ _ _ _ _ q=>le_int q
theorem O1:OpR X (compareOp .Gt) (zJ λi j=> .bl (decide (j<i))):=IM λ_ _ _ _ _ _ _ q=>gt_int q
theorem Lb:OpR X (compareOp .Is) (λx y H Q=>y= .bf∧Q (.bl (decide (x= .bf))) H):=by
 intro pins s σ H x y v u Q I rx ry h;obtain ⟨rfl,q⟩:=h;cases ry;refine is_none_gen (EI I q ?_)
 cases x<;>first
  | (cases rx;rfl)
  | (obtain ⟨t,rfl⟩:=rx;rfl)
theorem IT:OpR X (compareOp .IsNot) (λx y H Q=>y= .bf∧Q (.bl (!decide (x= .bf))) H):=by
 intro pins s σ H x y v u Q I rx ry h;obtain ⟨rfl,q⟩:=h;cases ry;refine isnot_none_gen (EI I q ?_)
 cases x<;>first
  | (cases rx;rfl)
  | (obtain ⟨t,rfl⟩:=rx;rfl)
theorem OpR.or{f:Value→Value→Sem Value}{r r':R2}(h:OpR X f r)(h':OpR X f r'):OpR X f (λx y H Q=>r x y H Q∨r' x y H Q):=by
 intro pins s σ H x y v u Q I rx ry q
 rcases q with q|q
 ·exact h pins s σ H x y v u Q I rx ry q
 ·exact h' pins s σ H x y v u Q I rx ry q
theorem bw(b:Expr){op:CmpOp}(h:op≠ .In:=by decide)(h2:op≠ .NotIn:=by decide):behindInMarks op b=false:=by
 have e1:(op==CmpOp.In)=false:=by cases op<;>first|rfl|exact absurd rfl h
 have e2:(op==CmpOp.NotIn)=false:=by cases op<;>first|rfl|exact absurd rfl h2
 cases b<;>simp [behindInMarks,e1,e2]
theorem IY{op:CmpOp}{r:R2}(ho:OpR X (compareOp op) r)(ha:PE X a ta)(hb:PE X b tb)(hm:behindInMarks op b=false):PE X (.Compare a [op] [b] pos) (JS r ta tb):=by
 intro pins s σ H Q I h;exact wpAny_Compare1 (He ha hb I h λv u s2 x y H2 I2 rx ry q=>ho pins s2 σ H2 x y v u Q I2 rx ry q) hm
def Ef(t:TE):TT:=λσ H Q=>t σ H λx H'=>∃k,x= .bl k∧Q k H'
theorem Jm{op:CmpOp}{r:R2}(ho:OpR X (compareOp op) r)(ha:PE X a ta)(hb:PE X b tb)(hm:behindInMarks op b=false):PT X (.Compare a [op] [b] pos) (Ef (JS r ta tb)):=by
 intro pins s σ H Q I h
 refine wpAny_isTrue_Compare1 (thn (ha pins s σ H _ I h) λv s1 ⟨x,H1,I1,r1,q1⟩=>thn (hb pins s1 σ H1 _ I1 q1) λu s2 ⟨y,H2,I2,r2,q2⟩=>
  thn (ho pins s2 σ H2 x y v u _ I2 r1 r2 q2) λc s3 ⟨z,H3,I3,r3,k,e,q3⟩=>?_) hm
 subst e;cases r3;exact wpAny_truthy_bool ⟨H3,I3,q3⟩
def zW(r r':R2)(ta tb tc:TE):TE:=λσ H Q=>ta σ H λx H1=>tb σ H1 λy H2=>r x y H2 λz H3=>∃k,z= .bl k∧
 (if k=true then tc σ H3 λw' H4=>r' y w' H4 Q else Q (.bl false) H3)
theorem Gj{op oP:CmpOp}{r r':R2}(ho:OpR X (compareOp op) r)(lg:OpR X (compareOp oP) r')(ha:PE X a ta)(hb:PE X b tb)(hc:PE X c tc)
  (hm:lastMarks [op,oP] [b,c]=false:=by with_unfolding_all rfl):PE X (.Compare a [op,oP] [b,c] pos) (zW r r' ta tb tc):=by
 intro pins s σ H Q I h
 refine Compare_chain (thn (ha pins s σ H _ I h) λv s1 ⟨x,H1,I1,r1,q1⟩=>chain_link (thn (hb pins s1 σ H1 _ I1 q1) λu s2 ⟨y,H2,I2,r2,q2⟩=>
  thn (ho pins s2 σ H2 x y v u _ I2 r1 r2 q2) λd s3 ⟨z,H3,I3,r3,k,e,q3⟩=>?_)) hm
 subst e;cases r3;refine wpAny_truthy_bool ?_;cases k with
 |false=>exact ite_ff ⟨.bl false,H3,I3,rfl,q3⟩
 |true=>exact ite_tt (chain_last (thn (hc pins s3 σ H3 _ I3 q3) λw' s4 ⟨z',H4,I4,r4,q4⟩=>lg pins s4 σ H4 y z' u w' Q I4 r2 r4 q4))
theorem Gs{op oP:CmpOp}{r r':R2}(ho:OpR X (compareOp op) r)(lg:OpR X (compareOp oP) r')(ha:PE X a ta)(hb:PE X b tb)(hc:PE X c tc)
  (hm:lastMarks [op,oP] [b,c]=false:=by with_unfolding_all rfl):PT X (.Compare a [op,oP] [b,c] pos) (Ef (zW r r' ta tb tc)):=by
 intro pins s σ H Q I h
 refine isTrue_chain (thn (ha pins s σ H _ I h) λv s1 ⟨x,H1,I1,r1,q1⟩=>test_link (thn (hb pins s1 σ H1 _ I1 q1) λu s2 ⟨y,H2,I2,r2,q2⟩=>
  thn (ho pins s2 σ H2 x y v u _ I2 r1 r2 q2) λd s3 ⟨z,H3,I3,r3,k,e,q3⟩=>?_)) hm
 subst e;cases r3;refine wpAny_truthy_bool ?_;cases k with
 |false=>
  obtain ⟨k',e',q'⟩:=q3;cases e';exact ite_ff ⟨H3,I3,q'⟩
 |true=>
  refine ite_tt (test_last (thn (hc pins s3 σ H3 _ I3 q3) λw' s4 ⟨z',H4,I4,r4,q4⟩=>thn (lg pins s4 σ H4 y z' u w' _ I4 r2 r4 q4) λd' s5 ⟨z2,H5,I5,r5,k2,e2,q5⟩=>?_));subst e2;cases r5;exact wpAny_truthy_bool ⟨H5,I5,q5⟩
def LZ(K:PySem.W.Frag)(x:V)(H:Hp)(k:Bool):Prop:=
 match x with
 | .bf=>k=false
 | .bl b=>k=b
 | .int i=>k=(i !=0)
 | .str y=>y.length≤sizeLine∧k=((y.length:Int) !=0)
 | .Fx y=>y.size≤sizeLine∧k=((y.size:Int) !=0)
 | .ref p=>(∃xs,cp K H p xs∧k= !xs.isEmpty)∨(∃xs,fR K H p xs∧k= !xs.isEmpty)∨∃dN,H p=some (.dK dN)∧k= !dN.isEmpty
 |_=>False
theorem Bt{κ:Type}{dN:List (κ×V)}{vs:List (κ×Value)}(r:KV dN vs):(!vs.isEmpty)= !dN.isEmpty:=by
 cases r<;>rfl
theorem rQ{xs:List V}{its:List Value}(r:Vals xs its):(!its.toArray.isEmpty)= !xs.isEmpty:=by
 cases r<;>simp
theorem ke:(sizeLine:Nat)<2^63:=by rw [sizeLine_eq];decide
theorem LQ:P0 X (λx H Q=>∃k,LZ X.K x H k∧Q k H):=by
 intro pins s σ H x v Q I rx h;obtain ⟨k,e,q⟩:=h;have hl:=ke;have hs:sizeLine=16777216:=sizeLine_eq;cases x with
 |bf=>
  cases rx;have e':k=false:=e;subst e';exact truthy_none ⟨H,I,q⟩
 |bl b=>
  cases rx;have e':k=b:=e;subst e';exact wpAny_truthy_bool ⟨H,I,q⟩
 |int i=>
  obtain ⟨t,rfl⟩:=rx;have e':k=(i !=0):=e;subst e';exact PySem.P.truthy_int ⟨H,I,q⟩
 |str y=>
  obtain ⟨t,rfl⟩:=rx;obtain ⟨hy,e'⟩:y.length≤sizeLine∧k=((y.length:Int) !=0):=e;subst e';exact PySem.P.truthy_str (by omega) ⟨H,I.tok _,q⟩
 |Fx y=>
  obtain ⟨t,rfl⟩:=rx;obtain ⟨hy,e'⟩:y.size≤sizeLine∧k=((y.size:Int) !=0):=e;subst e';exact PySem.W.truthy_bytes (by omega) ⟨H,I.tok _,q⟩
 |ref p=>
  cases rx;have e':(∃xs,cp X.K H p xs∧k= !xs.isEmpty)∨(∃xs,fR X.K H p xs∧k= !xs.isEmpty)∨∃dN,H p=some (.dK dN)∧k= !dN.isEmpty:=e
  rcases e' with ⟨xs,hx,e'⟩ | ⟨xs,hx,e'⟩ | ⟨dN,hx,e'⟩
  ·subst e'
   obtain ⟨its,r,pl,hz⟩:=I.list hx;have hlen:=r.length;exact wpAny_truthy_list pl.isList (by simp only [b8];omega) ⟨H,I.tok _,by rw [rQ r];exact q⟩
  ·subst e'
   obtain ⟨its,r,pl,hz⟩:=I.tuple hx;have hlen:=r.length;exact truthy_tuple pl (by simp only [b8];omega) ⟨H,I.tok _,by rw [rQ r];exact q⟩
  ·subst e'
   obtain ⟨hz,hS,vs,r,m⟩:dN.length≤sizeLine∧(p==sysModules)=false∧∃vs,KV dN vs∧s.heap.DictOf (uA X.prog X.w) p vs:=I.hok p _ hx;have hlen:dN.length=vs.length:=Paired.length r;exact wpAny_truthy_dict hS m (by omega) ⟨H,I.tok _,by rw [Bt r];exact q⟩
 |_=>exact (show False from e).elim
theorem Gu(ha:PE X a ta)(he:∀whole,isTrue a X.env whole=(do let v ←whole;standAt a.pos;holding [v] (truthy v))):
  PT X a (λσ H Q=>ta σ H λx H'=>∃k,LZ X.K x H' k∧Q k H'):=by
 intro pins s σ H Q I h;exact isTrue_plain (thn (ha pins s σ H _ I h) λv s1 ⟨x,H1,I1,r1,q1⟩=>LQ pins s1 σ H1 x v Q I1 r1 q1) (he _)
theorem vals1{x:V}{us:List Value}(r:Vals [x] us):∃u,us= [u]∧RelV x u:=by
 cases r with
 |cons r1 r2=>cases r2;exact ⟨_,rfl,r1⟩
end
structure tK (h:Heap) (x dx C:Addr) (mA:Str→Option Value):Prop where
 obj:h.get? x=some (PySem.W.instObj C dx)
 ns:h.Ns1 dx mA
 ne:dx≠x
theorem Dk{h:Heap}{dx:Addr}{mA:Str→Option Value}(n:h.Ns1 dx mA):∃od,h.get? dx=some od∧∀name,PySem.W.lookIn name od=some (mA name):=by
 obtain ⟨o,es,ep,ho,hd,hk,_,hm⟩:=n;refine ⟨o,ho,λname=>?_⟩;have e:=hm name;unfold nsFind findBy at e;rw [←Array.find?_toList] at e;unfold PySem.W.lookIn;rw [hd];dsimp only
 split
 ·rename_i y q
  rw [q] at e;exact congrArg some e
 ·rename_i q
  rw [q] at e
  have a:es.toList.any (·.refKey)=false:=by
   rw [List.any_eq_false];intro y hy;obtain ⟨z,t,EM⟩:=hk y (Array.mem_toList_iff.mp hy);simp [DictEntry.refKey,EM]
  have a':¬es.toList.any (·.refKey)=true:=by rw [a];exact cN
  rw [if_neg a'];exact congrArg some e
theorem tK.look{h:Heap}{x dx C:Addr}{mA:Str→Option Value}(I:tK h x dx C mA):∃od,PySem.W.InstAt h x (PySem.W.instObj C dx) C (some od)∧∀name,PySem.W.lookIn name od=some (mA name):=
 let ⟨od,ho,hl⟩:=Dk I.ns
 ⟨od,⟨I.obj,rfl,rfl,ho⟩,hl⟩
section
variable {prog:Program} {w:World} {A:Around} {E:Value→Shared→Prop} {s:Shared} {K:PySem.W.Frag} {x dx C f:Addr} {mA:Str→Option Value} {name:Str} {v:Value}
theorem get_map{expr:Bool}{Q:Value→Shared→Prop}(X:K.In s.heap)(I:tK s.heap x dx C mA)(hg:PySem.W.plainGet K C name=true)(hh:PySem.W.hasDictIn K C=true)
  (ha:PySem.W.findIn K (.ref C) name=some none) (hv:mA name=some v) (OH:PySem.W.handedIn v=true) (h:Q v {s with toks:=s.toks+1}):
  wpAny (model prog w) A (getAttr (.ref x) name expr) Q E s:=by
 obtain ⟨od,J,hl⟩:=I.look;exact PySem.W.get_value X J (PySem.W.plainGet_of hg).1 (PySem.W.findObj_own hh ha rfl (by rw [hl,hv])) OH h
theorem FK{pl:Sem Bool}{Q:Value×List Value→Shared→Prop}(X:K.In s.heap)(I:tK s.heap x dx C mA)(hg:PySem.W.plainGet K C name=true)
  (hf:PySem.W.findIn K (.ref C) name=some (some (.ref f))) (ht:PySem.W.isFn K (.ref f)=true) (hv:mA name=none) (h:Q (.ref f,[.ref x]) s):
  wpAny (model prog w) A (getMethod (.ref x) name pl) Q E s:=by
 obtain ⟨od,J,hl⟩:=I.look;exact PySem.W.method_fn X J (PySem.W.plainGet_of hg).1 (PySem.W.plainGet_of hg).2 hf (beq_iff_eq.mp ht) (by show (PySem.W.lookIn name od).map (·.isSome)=some false;rw [hl,hv];rfl) h
theorem JB{ns:List Str}{Q:Unit→Shared→Prop}(X:K.In s.heap)(I:tK s.heap x dx C mA)
  (hs:PySem.W.findIn K (.ref C) "__setattr__"=some (some (.builtin "object.__setattr__"))) (hp:PySem.W.plainOver K C=true) (ht:PySem.W.takerIn K C name=some none) (hh:PySem.W.hasDictIn K C=true)
  (hw:PySem.Within mA ns) (eD:ns.length≤sizeLine)
  (h:∀h',tK h' x dx C (λy=>if y=name then some v else mA y)→Heap.SameBut dx s.heap h'→Q () {s with heap:=h',toks:=s.toks+2}):
  wpAny (model prog w) A (setAttr (.ref x) name v) Q E s:=by
 obtain ⟨od,J,hl⟩:=I.look;refine PySem.W.set_plain X J hs (PySem.W.osa_open (s:={s with toks:=s.toks+1}) (r:=none) X J hp ht λb=>?_)
 obtain ⟨cd,hc,nE⟩:=PySem.W.any_some hh;have hx:s.heap.get? x=some ⟨.ref C,some dx, .plain, #[]⟩:=I.obj;refine wpAny_bind (wpAny_pure (wpAny_bind (wpAny_bind (wpAny_loadPart hx (wpAny_bind (PySem.W.Looks.here (s:={s with toks:=s.toks+1}) (PySem.W.looks_clsIn X hc) ?_))))))
 rw [nE];refine wpAny_pure (a:=some dx) (wpAny_bind (wpAny_pure (wpAny_bind ?_)));refine wpAny_nsSet1 (s:={s with toks:=s.toks+1}) I.ns λh' vZ iI=>?_
 obtain ⟨oD,esD,epD,XT,Xu,Xt⟩:=vZ.count (PySem.Within.cons name v hw);refine wpAny_bind (wpAny_lookBehind XT (by rw [Xu];exact pastItsLine_dict (kX Xt (by rw [dh];omega))) ?_)
 exact wpAny_pure (h _ ⟨(iI.2 _ (Ne.symm I.ne)).trans I.obj,vZ,I.ne⟩ iI)
theorem F9{R:Result→Shared→Prop}{vs:List Value}{kw:List (Str×Value)}(X:K.In s.heap)(hm:PySem.W.makesIn K C=true)
  (hi:PySem.W.findIn K (.ref C) "__init__"=some (some (.ref f))) (hf:PySem.W.typeIn K (.ref f)=some (.type "function"))
  (h:codeAny (model prog w) (A.under (.builtin "type.__call__" ⟨.ref C::vs,kw⟩)) (.call (.ref f) ⟨.ref (s.heap.objs.size+1)::vs,kw⟩) (PySem.W.InitBack (s.heap.objs.size+1) R)
   {s with heap:=(s.heap.push PySem.W.emptyDict).push (PySem.W.instObj C s.heap.objs.size)}):
  codeAny (model prog w) A (.call (.ref C) ⟨vs,kw⟩) R s:=by
 obtain ⟨hh,g,d,t,os⟩:=s;exact PySem.W.make_core (PySem.W.makes_of X hm) (PySem.W.looks_findIn X hi) (λself=>PySem.W.bind_fn X self hf) (.inl rfl) h
end
def g9(f:Str)(v:V):List (Str×V)→List (Str×V)
 | []=> [(f,v)]
 | (g,x)::r=>if g=f then (g,v)::r else (g,x)::g9 f v r
theorem pS(f g:Str)(v:V):∀fs:List (Str×V),(g9 f v fs).lookup g=if g=f then some v else fs.lookup g
 | []=>by
  show List.lookup g [(f,v)]=_
  by_cases h:g=f
  ·have hb:(g==f)=true:=beq_iff_eq.mpr h
   simp only [List.lookup,hb,if_pos h]
  ·have hb:(g==f)=false:=beq_eq_false_iff_ne.mpr h
   simp only [List.lookup,hb,if_neg h]
 | (k,x)::r=>by
  have ih:=pS f g v r;rw [show g9 f v ((k,x)::r)=(if k=f then (k,v)::r else (k,x)::g9 f v r) from rfl]
  by_cases hk:k=f
  ·rw [if_pos hk]
   by_cases h:g=k
   ·have hb:(g==k)=true:=beq_iff_eq.mpr h
    simp only [List.lookup,hb,if_pos (h.trans hk)]
   ·have hb:(g==k)=false:=beq_eq_false_iff_ne.mpr h
    simp only [List.lookup,hb,if_neg (λe:g=f=>h (e.trans hk.symm))]
  ·rw [if_neg hk]
   by_cases h:g=k
   ·have hb:(g==k)=true:=beq_iff_eq.mpr h
    simp only [List.lookup,hb,if_neg (λe:g=f=>hk (h.symm.trans e))]
   ·have hb:(g==k)=false:=beq_eq_false_iff_ne.mpr h
    simp only [List.lookup,hb];exact ih
theorem oG(f:Str)(v:V):∀fs:List (Str×V),f∈(g9 f v fs).map (·.1)∧∀g,g∈fs.map (·.1)→g∈(g9 f v fs).map (·.1)
 | []=>⟨by simp [g9],λg h=>by simp at h⟩
 | (k,x)::r=>by
  obtain ⟨i1,i2⟩:=oG f v r;rw [show g9 f v ((k,x)::r)=(if k=f then (k,v)::r else (k,x)::g9 f v r) from rfl]
  by_cases hk:k=f
  ·rw [if_pos hk]
   subst hk;exact ⟨by simp,λg h=>by simpa using h⟩
  ·rw [if_neg hk]
   refine ⟨?_,λg h=>?_⟩
   ·rw [iV]
    exact cI _ i1
   ·rw [iV] at h ⊢
    rcases cn.mp h with e|e
    ·exact cn.mpr (.inl e)
    ·exact cI _ (i2 g e)
theorem pQ(f:Str)(v:V):∀fs:List (Str×V),(g9 f v fs).length≤fs.length+1
 | []=>by simp [g9]
 | (k,x)::r=>by
  have ih:=pQ f v r;rw [show g9 f v ((k,x)::r)=(if k=f then (k,v)::r else (k,x)::g9 f v r) from rfl]
  by_cases hk:k=f
  ·rw [if_pos hk,dh,dh];omega
  ·rw [if_neg hk,dh,dh];omega
theorem nK.some_of{v:V}{o:Option Value}(r:nK (some v) o):∃u,o=some u∧RelV v u:=by
 cases o with
 |none=>exact (show False from r).elim
 |some u=>exact ⟨u,rfl,r⟩
theorem nK.none_of{o:Option Value}(r:nK none o):o=none:=by
 cases o with
 |none=>rfl
 |some u=>exact (show False from r).elim
theorem CQ{v:V}{u:Value}(r:RelV v u):PySem.W.handedIn u=true:=by
 cases v with
 |bf=>cases (show u=Value.none from r);rfl
 |bl b=>cases (show u=Value.bool b from r);rfl
 |int i=>obtain ⟨t,e⟩:=(show ∃t,u=Value.int i t from r);cases e;rfl
 |str x=>obtain ⟨t,e⟩:=(show ∃t,u=Value.str x t from r);cases e;rfl
 |Fx b=>obtain ⟨t,e⟩:=(show ∃t,u=Value.bytes b t from r);cases e;rfl
 |CK b=>obtain ⟨t,e⟩:=(show ∃t,u=Value.float b t from r);cases e;rfl
 |ref a=>cases (show u=Value.ref a from r);rfl
 |ty n=>cases (show u=Value.type n from r);rfl
section
variable {P:Program} {w:World} {H H':Hp} {h h':Heap} {a C dx:Addr} {fs Xd:List (Str×V)}
theorem pM(hok:hV P w H h)(e:H a=some (.ins C dx fs)):∃mA,tK h a dx C mA∧(∀f,nK (fs.lookup f) (mA f))∧PySem.Within mA (fs.map (·.1))∧fs.length≤1000∧H dx=some (.own a):=by
 obtain ⟨d,z,ne,ob,mA,n,r,q⟩:=(show cV P w H h a (.ins C dx fs) from hok a _ e);exact ⟨mA,⟨ob,n,ne⟩,r,q,z,d⟩
end
structure tG (K:PySem.W.Frag) (C:Addr):Prop where
 pg:PySem.W.plainGet K C Str.empty=true
 hd:PySem.W.hasDictIn K C=true
 po:PySem.W.plainOver K C=true
 sa:PySem.W.findIn K (.ref C) "__setattr__"=some (some (.builtin "object.__setattr__"))
theorem tG.get{K:PySem.W.Frag}{C:Addr}(c:tG K C)(f:Str):PySem.W.plainGet K C f=true:=c.pg
def jZ(K:PySem.W.Frag)(C:Addr)(f:Str):Prop:=PySem.W.findIn K (.ref C) f=some none
theorem jZ.PH{K:PySem.W.Frag}{C:Addr}{f:Str}(n:jZ K C f):PySem.W.takerIn K C f=some none:=by
 unfold PySem.W.takerIn;rw [show PySem.W.findIn K (.ref C) f=some none from n];rfl
structure Meth (K:PySem.W.Frag) (C:Addr) (m:Str) (f:Addr):Prop where
 at_:PySem.W.findIn K (.ref C) m=some (some (.ref f))
 fn:PySem.W.isFn K (.ref f)=true
 kp:PySem.W.keepIn K (.ref f)=true
section
variable {X:Cx} {pins:List (Addr×Obj)} {σ:St} {H:Hp} {s:Shared} {a C dx:Addr} {fs:List (Str×V)} {f:Str} {v:V} {A:Around} {E:Value→Shared→Prop}
theorem Bg{b:Bool}{Q:Value→Shared→Prop}(I:Inv X pins σ H s)(e:H a=some (.ins C dx fs))(c:tG X.K C)(n:jZ X.K C f)(l:fs.lookup f=some v)
  (h:∀u s',Inv X pins σ H s'→RelV v u→Q u s'):wpAny (model X.prog X.w) A (getAttr (.ref a) f b) Q E s:=by
 obtain ⟨mA,O,r,_,_,_⟩:=pM I.hok e;obtain ⟨u,hu,ru⟩:=nK.some_of (v:=v) (o:=mA f) (by rw [←l];exact r f)
 exact get_map I.gT O (c.get f) c.hd n hu (CQ ru) (h u _ (I.tok _) ru)
theorem rN{m:Str}{g:Addr}{pl:Sem Bool}{Q:Value×List Value→Shared→Prop}(I:Inv X pins σ H s)(e:H a=some (.ins C dx fs))(c:tG X.K C)(k:Meth X.K C m g)(l:fs.lookup m=none)
  (h:Q (.ref g,[.ref a]) s):wpAny (model X.prog X.w) A (getMethod (.ref a) m pl) Q E s:=by
 obtain ⟨mA,O,r,_,_,_⟩:=pM I.hok e;have hn:mA m=none:=nK.none_of (by rw [←l];exact r m)
 exact FK I.gT O (c.get m) k.at_ k.fn hn h
theorem BY{y:V}{u:Value}{Q:Unit→Shared→Prop}(I:Inv X pins σ H s)(e:H a=some (.ins C dx fs))(c:tG X.K C)(n:jZ X.K C f)(hl:fs.length<1000)(ry:RelV y u)
  (h:∀s',Inv X pins σ (upd H a (.ins C dx (g9 f y fs))) s'→Q () s'):wpAny (model X.prog X.w) A (setAttr (.ref a) f u) Q E s:=by
 obtain ⟨mA,O,r,wi,_,ho⟩:=pM I.hok e;have hz:(fs.map (·.1)).length≤sizeLine:=by rw [aK,sizeLine_eq];omega
 refine JB I.gT O c.sa c.po n.PH c.hd wi hz λh' O' sb=>h _ ?_;have hd:∃o,h'.get? dx=some o:=let ⟨o,_,_,e',_⟩:=O'.ns;⟨o,e'⟩;refine I.write (x:=a) (e:=dx) (by rw [e];exact True.intro) (.inr ho) (λb q hb z=>(sb.2 b hb).trans z) hd ?_
 refine ⟨by rw [aF O.ne];exact ho,?_,O.ne,O'.obj,_,O'.ns,λg=>?_,λg hg=>?_⟩
 ·have:=pQ f y fs;omega
 ·show nK ((g9 f y fs).lookup g) (if g=f then some u else mA g)
  rw [pS]
  by_cases q:g=f
  ·rw [if_pos q,if_pos q];exact ry
  ·rw [if_neg q,if_neg q];exact r g
 ·by_cases q:g=f
  ·rw [q];exact (oG f y fs).1
  ·refine (oG f y fs).2 g (wi g λz=>hg ?_)
   show (if g=f then some u else mA g)=none;rw [if_neg q];exact z
theorem Inv.made(I:Inv X pins σ H s):Inv X pins σ (upd (upd H s.heap.objs.size (.own (s.heap.objs.size+1))) (s.heap.objs.size+1) (.ins C s.heap.objs.size []))
  {s with heap:=(s.heap.push PySem.W.emptyDict).push (PySem.W.instObj C s.heap.objs.size)}:=by
 have e1:(s.heap.push PySem.W.emptyDict).get? s.heap.objs.size=some PySem.W.emptyDict:=Heap.get?_push_size s.heap rfl
 have e2:((s.heap.push PySem.W.emptyDict).push (PySem.W.instObj C s.heap.objs.size)).get? (s.heap.objs.size+1)=some (PySem.W.instObj C s.heap.objs.size):=by
  have:=Heap.get?_push_size (s.heap.push PySem.W.emptyDict) (o:=PySem.W.instObj C s.heap.objs.size) rfl
  rwa [Heap.size_push] at this
 have e3:(s.heap.push PySem.W.emptyDict).Ns s.heap.objs.size (λ_=>none):=⟨PySem.W.emptyDict, #[],_,e1,rfl,(λe he=>absurd he (by simp)),λ_=>rfl⟩
 have I1:=I.laid (a:=s.heap.objs.size) (o:= .own (s.heap.objs.size+1)) (h':=s.heap.push PySem.W.emptyDict) (t':=s.toks) (λb u q=>Heap.get?_push_of_some _ q) (bx _) ⟨_,e1⟩;refine I1.laid (a:=s.heap.objs.size+1) (o:= .ins C s.heap.objs.size []) (t':=s.toks) (λb u q=>Heap.get?_push_of_some _ q) (Nat.le_of_eq (Heap.size_push _ _)) ?_;have ne:s.heap.objs.size≠s.heap.objs.size+1:=bQ (Nat.lt_succ_self _);refine ⟨by rw [aF ne,ax],cw _,ne,e2,λ_=>none,(Heap.Ns1.of_empty e3).at λo q=>Heap.get?_push_of_some _ q,λ_=>True.intro,λy hy=>absurd rfl hy⟩
theorem Hb{prog:Program}{w:World}{env:Env}{e:Expr}{f:Str}{pos:Pos}{s:Shared}{Q:Value→Shared→Prop}(hb:attributeBase e f env (eval e env)=eval e env)
  (h:wpAny (model prog w) A (eval e env) (λo s₁=>wpAny (model prog w) A (getAttr o f true) Q E s₁) E s):wpAny (model prog w) A (eval (.Attribute e f pos) env) Q E s:=
 Attribute_any_ h (by rw [arm_eval_Attribute,hb])
end
def Vp(K:PySem.W.Frag)(ta:TE)(f:Str):TE:=λσ H Q=>ta σ H λx H1=>∃a C dx fs v,x= .ref a∧H1 a=some (.ins C dx fs)∧tG K C∧jZ K C f∧fs.lookup f=some v∧Q v H1
def UR(K:PySem.W.Frag)(ta tv:TE)(f:Str):TS:=λD σ H=>tv σ H λy H1=>ta σ H1 λx H2=>∃a C dx fs,x= .ref a∧H2 a=some (.ins C dx fs)∧tG K C∧jZ K C f∧fs.length<1000∧
 D.nx σ (upd H2 a (.ins C dx (g9 f y fs)))
section
variable {X:Cx} {o e value:Expr} {f:Str} {pos pos' aak:Pos} {ta tv:TE}
theorem Ll(he:PE X e ta)(hb:attributeBase e f X.env (eval e X.env)=eval e X.env):PE X (.Attribute e f pos) (Vp X.K ta f):=by
 intro pins s σ H Q I h;refine Hb hb (thn (he pins s σ H _ I h) λu s1 ⟨x,H1,I1,rx,a,C,dx,fs,v,ex,ea,c,n,l,q⟩=>?_);subst ex;obtain rfl:u=Value.ref a:=rx;exact Bg I1 ea c n l λu' s2 I2 ru=>⟨v,H1,I2,ru,q⟩
theorem Lr(ha:PE X o ta)(hv:PE X value tv)(hs:swapsWith value (some (.Attribute o f pos')) pos.line X.env=pure false):PS X (.Assign [.Attribute o f pos'] value pos) (UR X.K ta tv f):=by
 intro pins s σ H D I h;refine plainObj_wpAny_Assign_Attribute (thn (hv pins s σ H _ I h) λu s1 ⟨y,H1,I1,ry,q⟩=>thn (ha pins s1 σ H1 _ I1 q) λov s2 ⟨x,H2,I2,rx,a,C,dx,fs,ex,ea,c,n,l,q2⟩=>?_) hs;subst ex;obtain rfl:ov=Value.ref a:=rx;exact BY I2 ea c n l ry λs3 I3=>⟨σ,_,I3,q2⟩
end
section
variable {X:Cx} {pins:List (Addr×Obj)} {σ:St} {H:Hp} {s:Shared} {A:Around} {E:Value→Shared→Prop} {Q:Value→Shared→Prop} {c:Value} {b:Bool}
inductive i6 (K:PySem.W.Frag) (H:Hp):V→Value→Prop where
 |bf:i6 K H .bf (.type "NoneType")
 |bl (x:Bool):i6 K H (.bl x) (.type "bool")
 |int (i:Int):i6 K H (.int i) (.type "int")
 |str (x:Str):i6 K H (.str x) (.type "str")
 |CK (x:UInt64):i6 K H (.CK x) (.type "float")
 |lst {a:Addr} {xs:List V} (e:H a=some (.lst xs)):i6 K H (.ref a) (.type "list")
 |pG {a:Addr} {o:Obj} {xs:List V} (e:H a=some (.pG o (.lst xs))):i6 K H (.ref a) (.type "list")
 |tup {a:Addr} {xs:List V} (e:H a=some (.tup xs)):i6 K H (.ref a) (.type "tuple")
 |dK {a:Addr} {dN:List (Key×V)} (e:H a=some (.dK dN)):i6 K H (.ref a) (.type "dict")
 |dT {a:Addr} {dN:List (List Key×V)} (e:H a=some (.dT dN)):i6 K H (.ref a) (.type "dict")
 |ins {a C dx:Addr} {fs:List (Str×V)} (e:H a=some (.ins C dx fs)) (cl:tG K C) (ha:PySem.W.findIn K (.ref C) "__class__"=some (some (.builtin "object.__class__")))
   (hn:PySem.W.specialIn K (.builtin "object.__class__") "__get__"=some (some (.builtin "getset_descriptor.__get__"))) (Sq:PySem.W.takesIn K (.builtin "object.__class__")=some true)
   (hm:PySem.W.mroIn K C (.type "object")=some true):i6 K H (.ref a) (.ref C)
theorem Dc{x:V}{u t:Value}(I:Inv X pins σ H s)(rx:RelV x u)(ty:i6 X.K H x t)(e:PySem.W.kitOne X.K t c=some b)(h:∀tk,Q (.bool b) {s with toks:=tk}):
  wpAny (model X.prog X.w) A (call (.builtin "isinstance") [u,c]) Q E s:=by
 cases ty with
 |bf=>cases (show u=Value.none from rx);exact PySem.W.kia_one PySem.W.kitx_none I.gT True.intro e (λz=>nomatch z) h
 |bl y=>cases (show u=Value.bool y from rx);exact PySem.W.kia_one PySem.W.kitx_bool I.gT True.intro e (λz=>nomatch z) h
 |int i=>obtain ⟨t,q⟩:=(show ∃t,u=Value.int i t from rx);cases q;exact PySem.W.kia_one PySem.W.kitx_int I.gT True.intro e (λz=>nomatch z) h
 |str y=>obtain ⟨t,q⟩:=(show ∃t,u=Value.str y t from rx);cases q;exact PySem.W.kia_one PySem.W.kitx_str I.gT True.intro e (λz=>nomatch z) h
 |CK y=>obtain ⟨t,q⟩:=(show ∃t,u=Value.float y t from rx);cases q;exact PySem.W.kia_one PySem.W.kitx_float I.gT True.intro e (λz=>nomatch z) h
 | @lst a xs ea=>
  cases (show u=Value.ref a from rx);obtain ⟨_,_,n,_,h1⟩:=(show cV X.prog X.w H s.heap a (.lst xs) from I.hok a _ ea);exact PySem.W.kia_one PySem.W.kitx_list I.gT ⟨_,h1,rfl⟩ e (λz=>nomatch z) h
 | @pG a ob xs ea=>
  cases (show u=Value.ref a from rx);obtain ⟨_,_,_,n,_,h1⟩:=(show cV X.prog X.w H s.heap a (.pG ob (.lst xs)) from I.hok a _ ea);exact PySem.W.kia_one PySem.W.kitx_list I.gT ⟨_,h1,rfl⟩ e (λz=>nomatch z) h
 | @tup a xs ea=>
  cases (show u=Value.ref a from rx);obtain ⟨_,_,_,p⟩:=(show cV X.prog X.w H s.heap a (.tup xs) from I.hok a _ ea);obtain ⟨o,h1,h2,_⟩:=p;exact PySem.W.kia_one PySem.W.kitx_tuple I.gT ⟨o,h1,h2⟩ e (λz=>nomatch z) h
 | @dK a dN ea=>
  cases (show u=Value.ref a from rx);obtain ⟨_,_,vs,_,p⟩:=(show cV X.prog X.w H s.heap a (.dK dN) from I.hok a _ ea);obtain ⟨o,es,ep,h1,h2,_⟩:=p;exact PySem.W.kia_one PySem.W.kitx_dict I.gT ⟨o,h1,h2.1⟩ e (λz=>nomatch z) h
 | @dT a dN ea=>
  cases (show u=Value.ref a from rx);obtain ⟨_,_,xs,_,o,es,ep,h1,h2,_⟩:=(show cV X.prog X.w H s.heap a (.dT dN) from I.hok a _ ea);exact PySem.W.kia_one PySem.W.kitx_dict I.gT ⟨o,h1,h2.1⟩ e (λz=>nomatch z) h
 | @ins a C dx fs ea cl ha hn Sq hm=>
  cases (show u=Value.ref a from rx);obtain ⟨mA,O,_⟩:=pM I.hok ea;obtain ⟨od,J,_⟩:=O.look;exact PySem.W.kia_one (PySem.W.kitx_own (cl.get _) cl.hd ha hn Sq hm) I.gT J e (λz=>nomatch z) h
end
structure cC (k:Nat) (A:Around):Prop where
 hd:A.handled=none
 dp:A.depth+3*k+5<recursionLimit
 un:A.units+16*k+200<cLine
theorem cC.mono{j k:Nat}{A:Around}(r:cC k A)(h:j≤k):cC j A:=⟨r.hd,by have:=r.dp;omega,by have:=r.un;omega⟩
theorem cC.deeper{k:Nat}{A:Around}(r:cC (k+1) A)(env:Env):cC k (A.deeper env):=
 ⟨r.hd,by have:=r.dp;show A.depth+1+3*k+5<_;omega,by have:=r.un;show A.units+3+16*k+200<_;omega⟩
theorem BA{A:Around}{C:Addr}{us:List Value}{kw:List (Str×Value)}:(A.under (.builtin "type.__call__" ⟨.ref C::us,kw⟩)).depth=A.depth+1:=by
 first|rfl|simp [Around.under,Code.weight,Code.isCreation,Code.isGuard,Code.isCaller,Code.frames,Code.isFrame,guardIds]
theorem BC{A:Around}{C:Addr}{us:List Value}{kw:List (Str×Value)}:(A.under (.builtin "type.__call__" ⟨.ref C::us,kw⟩)).units=A.units+1:=by
 first|rfl|simp [Around.under,Code.cUnits,Code.frames,Code.isFrame]
theorem cC.make{k:Nat}{A:Around}(r:cC (k+1) A)(C:Addr)(us:List Value)(kw:List (Str×Value)):cC k (A.under (.builtin "type.__call__" ⟨.ref C::us,kw⟩)):=
 ⟨r.hd,by have:=r.dp;rw [BA];omega,by have:=r.un;rw [BC];omega⟩
theorem cC.depth{k:Nat}{A:Around}(r:cC k A):A.depth<recursionLimit:=by have:=r.dp;omega
theorem cC.units{k:Nat}{A:Around}(r:cC k A):A.units+64<cLine:=by have:=r.un;omega
def MV:TA:=λ_ H Q=>Q [] H
def Px(ta:TE)(tr:TA):TA:=λσ H Q=>ta σ H λx H1=>tr σ H1 λxs H2=>Q (x::xs) H2
section
variable {X:Cx} {e:Expr} {es:List Expr} {te:TE} {t:TA} {pos:Pos}
theorem ig:PA X [] MV:=λ_ _ _ _ H Q I h=>Calls.spliced_nil ⟨[],H,I, .nil,h⟩
theorem dO(ha:PE X e te)(hr:PA X es t)(hs:starEach (e::es) X.env=(false,eval e X.env)::starEach es X.env:=by rfl):PA X (e::es) (Px te t):=by
 intro pos pins s σ H Q I h;rw [hs];show wpAny _ _ (spliced ((false,eval e X.env)::backTo pos (starEach es X.env))) _ _ s;refine Calls.spliced_cons (thn (ha pins s σ H _ I h) λu s1 ⟨x,H1,I1,r1,q1⟩=>?_);exact thn (hr pos pins s1 σ H1 _ I1 q1) λus s2 ⟨xs,H2,I2,r2,q2⟩=>⟨x::xs,H2,I2, .cons r1 r2,q2⟩
def Vx(t:TA):TE:=λσ H Q=>t σ H λxs H1=>xs.length≤sizeLine∧∀p,H1 p=none→Q (.ref p) (upd H1 p (.tup xs))
def Vs(t:TA):TE:=λσ H Q=>t σ H λxs H1=>xs.length≤sizeLine∧∀p,H1 p=none→Q (.ref p) (upd H1 p (.lst xs))
theorem E5{x1}(h:PA X es t):PE X (.Tuple es x1 pos) (Vx t):=by
 intro pins s σ H Q I hq;refine wpAny_Tuple_spliced (thn (h pos pins s σ H _ I hq) λus s1 ⟨xs,H1,I1,r,z,q⟩=>⟨by rw [←r.length];exact z,?_⟩)
 have hf:H1 s1.heap.objs.size=none:=I1.hok.fresh (bx _);refine ⟨.ref s1.heap.objs.size,upd H1 s1.heap.objs.size (.tup xs),I1.laid (t':=s1.toks) (λb u e=>Heap.get?_push_of_some _ e) (bx _) ?_,rfl,q _ hf⟩;exact ⟨z,us,r,⟨_,Heap.get?_push_size _ rfl,rfl,_,rfl⟩⟩
theorem E4(h:PA X es t):PE X (.List es pos) (Vs t):=by
 intro pins s σ H Q I hq;refine wpAny_List_spliced (thn (h pos pins s σ H _ I hq) λus s1 ⟨xs,H1,I1,r,z,q⟩=>⟨by rw [←r.length];exact z,?_⟩)
 have hf:H1 s1.heap.objs.size=none:=I1.hok.fresh (bx _);refine ⟨.ref s1.heap.objs.size,upd H1 s1.heap.objs.size (.lst xs),I1.laid (t':=s1.toks) (λb u e=>Heap.get?_push_of_some _ e) (bx _) ?_,rfl,q _ hf⟩;exact ⟨z,us,0,r,Heap.get?_push_size _ rfl⟩
end
abbrev Sp:=List V→Hp→VK→XK→Prop
abbrev qD:=List Env→Hp→Shared→XK→Value→Shared→Prop
structure Env0 (P:Program) (w:World) (K:PySem.W.Frag) (mg:Str→Option Value) (base:Heap) (A:Around) (outer:List Env) (s:Shared) (H:Hp):Prop where
 frames:A.frames=some outer
 mod:Mod K mg base
 bs:∀b o,base.get? b=some o→s.heap.get? b=some o∧H b=none
 bsz:base.objs.size≤s.heap.objs.size
 funs:s.heap.FunFrames base outer
 frf:∀b∈uc outer,H b=none
 hok:hV P w H s.heap
 bare:AllBare s.gens
def CE(outer:List Env)(P:Program)(w:World)(H:Hp)(s:Shared)(Q:VK)(u:Value)(s':Shared):Prop:=
 ∃v H',s'.os=s.os∧AllBare s'.gens∧Un (uc outer) [] H H' s.heap s'.heap∧hV P w H' s'.heap∧RelV v u∧Q v H'
def CR(CX:qD)(outer:List Env)(P:Program)(w:World)(H:Hp)(s:Shared)(Q:VK)(E:XK)(r:Result)(s':Shared):Prop:=
 match r with
 | .ok (.ret u)=>CE outer P w H s Q u s'
 | .ok _=>False
 | .error e=>CX outer H s E e s'
structure FnOk (P:Program) (w:World) (K:PySem.W.Frag) (mg:Str→Option Value) (base:Heap) (CX:qD) (k:Nat) (f:Addr) (fd:FuncData) (ps:List Str) (sp:Sp):Prop where
 len:∀vs H Q E,sp vs H Q E→vs.length=ps.length
 run:∀(A:Around)(outer:List Env)(s:Shared)(H:Hp)(args:Args)(us:List Value)(vs:List V)(Q:VK)(E:XK),cC k A→Env0 P w K mg base A outer s H→BindsTo s fd args (ps.zip us)→Vals vs us→sp vs H Q E→
  codeAny (model P w) A (.call (.ref f) args) (CR CX outer P w H s Q E) s
theorem FnOk.mono{P:Program}{w:World}{K:PySem.W.Frag}{mg:Str→Option Value}{base:Heap}{CX:qD}{j k:Nat}{f:Addr}{fd:FuncData}{ps:List Str}{sp:Sp}(F:FnOk P w K mg base CX j f fd ps sp)(h:j≤k):
  FnOk P w K mg base CX k f fd ps sp:=⟨F.len,λA outer s H args us vs Q E hr=>F.run A outer s H args us vs Q E (hr.mono h)⟩
theorem FnOk.imp{P:Program}{w:World}{K:PySem.W.Frag}{mg:Str→Option Value}{base:Heap}{CX:qD}{k:Nat}{f:Addr}{fd:FuncData}{ps:List Str}{sp Vd:Sp}(F:FnOk P w K mg base CX k f fd ps sp)
  (h:∀vs H Q E,Vd vs H Q E→sp vs H Q E):FnOk P w K mg base CX k f fd ps Vd:=
 ⟨λvs H Q E q=>F.len vs H Q E (h _ _ _ _ q),λA outer s H args us vs Q E hr he hb hv hs=>F.run A outer s H args us vs Q E hr he hb hv (h _ _ _ _ hs)⟩
theorem Env0.make{P:Program}{w:World}{K:PySem.W.Frag}{mg:Str→Option Value}{base:Heap}{A:Around}{outer:List Env}{s:Shared}{H:Hp}(e:Env0 P w K mg base A outer s H)(C:Addr)(us:List Value)(kw:List (Str×Value)):
  Env0 P w K mg base (A.under (.builtin "type.__call__" ⟨.ref C::us,kw⟩)) outer s H:=⟨by first|exact e.frames| (simpa [Around.under,Code.envs,Code.isFrame,pushEnvs] using e.frames),e.mod,e.bs,e.bsz,e.funs,e.frf,e.hok,e.bare⟩
section
variable {X:Cx} {pins:List (Addr×Obj)} {σ:St} {H:Hp} {s s':Shared}
theorem Inv.Mu(I:Inv X pins σ H s):Env0 X.prog X.w X.K X.mg X.base X.A X.stack s H:=
 ⟨I.ok.frames,I.ok.mod,I.bs,kX I.ok.bsz I.sz,I.stack,I.B9,I.hok,I.bare⟩
theorem Inv.after{Q:VK}{u:Value}(I:Inv X pins σ H s)(h:CE X.stack X.prog X.w H s Q u s'):EP X pins σ Q u s':=by
 obtain ⟨v,H',os,bare,un,hok,r,q⟩:=h;obtain ⟨hh,g,d,t,O6⟩:=s';obtain rfl:O6=s.os:=os;exact ⟨v,H',I.call (h':=hh) (g':=g) (d':=d) (t':=t) (ch:= []) un hok bare (λb z=>absurd z (by simp)),r,q⟩
end
def Pw(sp:Sp)(bo:List V)(E:XK)(t:TA):TE:=λσ H Q=>t σ H λvs H1=>sp (vs++bo) H1 Q E
def Ee(C:Addr)(m:Str)(sp:Sp)(bo:List V)(E:XK)(ta:TE)(t:TA):TE:=λσ H Q=>ta σ H λx H1=>∃a dx fs,x= .ref a∧H1 a=some (.ins C dx fs)∧fs.lookup m=none∧
 t σ H1 λvs H2=>sp (x::(vs++bo)) H2 Q E
def Pz(C:Addr)(sp:Sp)(bo:List V)(E:XK)(t:TA):TE:=λσ H Q=>t σ H λvs H1=>∀x dx,H1 x=none→H1 dx=none→dx≠x→
 sp (.ref x::(vs++bo)) (upd (upd H1 dx (.own x)) x (.ins C dx [])) (λv H2=>v= .bf∧Q (.ref x) H2) E
def Binds(K:PySem.W.Frag)(fd:FuncData)(ps:List Str)(ds:List Value):Prop:=
 ∀(s:Shared)(us:List Value),K.In s.heap→(us++ds).length=ps.length→BindsTo s fd ⟨us,[]⟩ (ps.zip (us++ds))
theorem Binds.all{K:PySem.W.Frag}{fd:FuncData}{ps:List Str}(h:∀us:List Value,us.length=ps.length→bindArgs fd ⟨us,[]⟩=pure (ps.zip us)):Binds K fd ps []:=λs us _ hl=>by
 rw [hJ] at hl ⊢;exact .of_eq (h us hl)
def Passes(CX:qD)(X:Cx)(E:XK):Prop:=∀(pins:List (Addr×Obj))(σ:St)(H:Hp)(s:Shared)(e:Value)(s':Shared),Inv X pins σ H s→CX X.stack H s E e s'→X.xe e s'
section
variable {X:Cx} {CX:qD} {k:Nat} {f C:Addr} {fd:FuncData} {ps:List Str} {sp:Sp} {bo:List V} {ds:List Value} {E:XK} {x m:Str} {p pos apos:Pos} {e o:Expr} {es:List Expr} {ta:TE} {t:TA}
theorem zN{pins:List (Addr×Obj)}{σ:St}{H:Hp}{s:Shared}{Q:VK}{us:List Value}{vs:List V}(F:FnOk X.prog X.w X.K X.mg X.base CX k f fd ps sp)(hr:cC k X.A)(hb:Binds X.K fd ps ds)(hd:Vals bo ds)(hx:Passes CX X E)
  (I:Inv X pins σ H s) (r:Vals vs us) (h:sp (vs++bo) H Q E):wpAny (model X.prog X.w) X.A (call (.ref f) us) (EP X pins σ Q) X.xe s:=by
 have r2:Vals (vs++bo) (us++ds):=r.append hd;have hl:(us++ds).length=ps.length:=by rw [←r2.length];exact F.len _ _ _ _ h
 refine wpAny_call (codeAny_mono (F.run X.A X.stack s H ⟨us,[]⟩ (us++ds) (vs++bo) Q E hr I.Mu (hb s us I.gT hl) r2 h) λr s' hq=>?_);cases r with
 |error e=>exact hx pins σ H s e s' I hq
 |ok fl=>
  cases fl with
  |ret u=>exact I.after hq
  |next=>exact False.elim hq
  |brk=>exact False.elim hq
  |cont=>exact False.elim hq
theorem IW(F:FnOk X.prog X.w X.K X.mg X.base CX k f fd ps sp)(hr:cC k X.A)(hg:Gl X x)(hm:X.mg x=some (.ref f))(hk:PySem.W.keepIn X.K (.ref f)=true)(hb:Binds X.K fd ps ds)(hd:Vals bo ds)(hx:Passes CX X E)
  (ha:PA X (e::es) t) (lS:(x==("__debug__":Str))=false:=by decide) (he:starEach (e::es) X.env=(false,eval e X.env)::starEach es X.env:=by rfl) (eU:(backTo pos (starEach es X.env)).any (·.1)=false:=by rfl):
  PE X (.Call (.Name x p) (e::es) [] pos) (Pw sp bo E t):=by
 intro pins s σ H Q I h;refine wpAny_Call_Name_kw (ur I hg hm ?_ lS);refine PySem.W.callWith_K (h₀:=X.base) I.ok.mod.kin hk (thn (ha pos pins s σ H _ I h) λus s1 ⟨vs,H1,I1,r,q⟩=>⟨I1.gT,?_⟩) he eU;exact zN F hr hb hd hx I1 r q
theorem Jb{pl:Sem Bool}(he:PE X o ta)(c:tG X.K C)(hm:Meth X.K C m f)(F:FnOk X.prog X.w X.K X.mg X.base CX k f fd ps sp)(hr:cC k X.A)(hb:Binds X.K fd ps ds)(hd:Vals bo ds)(hx:Passes CX X E)(ha:PA X (e::es) t)
  (jG:starEach (e::es) X.env=(false,eval e X.env)::starEach es X.env:=by rfl) (eU:(backTo pos (starEach es X.env)).any (·.1)=false:=by rfl)
  (ht:eval (.Call (.Attribute o m apos) (e::es) [] pos) X.env=(do
   let ov ←eval o X.env
   standAt apos.atName
   let (f,first) ←holding [ov] (getMethod ov m pl)
   callWith pos f first (backTo pos (starEach (e::es) X.env)) (backToKw pos (keywordEach [] X.env))):=by rfl):
  PE X (.Call (.Attribute o m apos) (e::es) [] pos) (Ee C m sp bo E ta t):=by
 intro pins s σ H Q I h;refine PySem.W.methodCall_KW (pl:=pl) (thn (he pins s σ H _ I h) λu s1 ⟨x,H1,I1,rx,a,dx,fs,ex,ea,l,q⟩=>?_) ht;subst ex;obtain rfl:u=Value.ref a:=rx;refine rN I1 ea c hm l ?_;refine PySem.W.callWith_K (first:= [.ref a]) (h₀:=X.base) I.ok.mod.kin hm.kp (thn (ha pos pins s1 σ H1 _ I1 q) λus s2 ⟨vs,H2,I2,r,q2⟩=>⟨I2.gT,?_⟩) jG eU;exact zN (us:= .ref a::us) (vs:= .ref a::vs) F hr hb hd hx I2 (.cons rfl r) q2
theorem Gk{pl:Sem Bool}(he:PE X o ta)(c:tG X.K C)(hm:Meth X.K C m f)(F:FnOk X.prog X.w X.K X.mg X.base CX k f fd ps sp)(hr:cC k X.A)(hb:Binds X.K fd ps ds)(hd:Vals bo ds)(hx:Passes CX X E)
  (ht:eval (.Call (.Attribute o m apos) [] [] pos) X.env=(do
   let ov ←eval o X.env
   standAt apos.atName
   let (f,first) ←holding [ov] (getMethod ov m pl)
   callWith pos f first (backTo pos (starEach [] X.env)) (backToKw pos (keywordEach [] X.env))):=by rfl):
  PE X (.Call (.Attribute o m apos) [] [] pos) (Ee C m sp bo E ta MV):=by
 intro pins s σ H Q I h;refine PySem.W.methodCall_KW (pl:=pl) (thn (he pins s σ H _ I h) λu s1 ⟨x,H1,I1,rx,a,dx,fs,ex,ea,l,q⟩=>?_) ht;subst ex;obtain rfl:u=Value.ref a:=rx;refine rN I1 ea c hm l ?_;exact PySem.W.callWith_K0 (first:= [.ref a]) I1.gT hm.kp (zN (us:= [.ref a]) (vs:= [.ref a]) F hr hb hd hx I1 (.cons rfl .nil) q)
structure Mk (K:PySem.W.Frag) (C f:Addr):Prop where
 makes:PySem.W.makesIn K C=true
 init:PySem.W.findIn K (.ref C) "__init__"=some (some (.ref f))
 fn:PySem.W.isFn K (.ref f)=true
 kp:PySem.W.keepIn K (.ref C)=true
theorem Gx{pins:List (Addr×Obj)}{σ:St}{H:Hp}{s:Shared}{Q:VK}{us:List Value}{vs:List V}(M:Mk X.K C f)(F:FnOk X.prog X.w X.K X.mg X.base CX k f fd ps sp)(hr:cC (k+1) X.A)(hb:Binds X.K fd ps ds)(hd:Vals bo ds)
  (hx:Passes CX X E) (I:Inv X pins σ H s) (r:Vals vs us)
  (h:∀x dx,H x=none→H dx=none→dx≠x→sp (.ref x::(vs++bo)) (upd (upd H dx (.own x)) x (.ins C dx [])) (λv H2=>v= .bf∧Q (.ref x) H2) E):
  wpAny (model X.prog X.w) X.A (call (.ref C) us) (EP X pins σ Q) X.xe s:=by
 have hq:=h (s.heap.objs.size+1) s.heap.objs.size (I.hok.fresh (mQ _)) (I.hok.fresh (bx _)) (bQ (Nat.lt_succ_self _));have I2:=Inv.made (C:=C) I;have r2:Vals (V.ref (s.heap.objs.size+1)::(vs++bo)) (Value.ref (s.heap.objs.size+1)::(us++ds)):= .cons rfl (r.append hd)
 have hl:(Value.ref (s.heap.objs.size+1)::us++ds).length=ps.length:=by
  have e:=r2.length;rw [F.len _ _ _ _ hq] at e;exact e.symm
 refine wpAny_call (F9 (f:=f) I.gT M.makes M.init (beq_iff_eq.mp M.fn) (codeAny_mono (F.run _ X.stack _ _ ⟨Value.ref (s.heap.objs.size+1)::us,[]⟩ (Value.ref (s.heap.objs.size+1)::(us++ds)) _ _ E (hr.make C us [])
  (I2.Mu.make C us []) (hb _ (Value.ref (s.heap.objs.size+1)::us) I2.gT hl) r2 hq) λr s' Ic=>?_))
 cases r with
 |error e=>exact hx pins σ _ _ e s' I2 Ic
 |ok fl=>
  cases fl with
  |ret u=>
   obtain ⟨v,H',I3,rv,ev,q3⟩:=I2.after Ic;subst ev;exact ⟨rv,⟨V.ref (s.heap.objs.size+1),H',I3,rfl,q3⟩⟩
  |next=>exact False.elim Ic
  |brk=>exact False.elim Ic
  |cont=>exact False.elim Ic
theorem Ja(M:Mk X.K C f)(F:FnOk X.prog X.w X.K X.mg X.base CX k f fd ps sp)(hr:cC (k+1) X.A)(hg:Gl X x)(hm:X.mg x=some (.ref C))(hb:Binds X.K fd ps ds)(hd:Vals bo ds)(hx:Passes CX X E)
  (ha:PA X (e::es) t) (lS:(x==("__debug__":Str))=false:=by decide) (he:starEach (e::es) X.env=(false,eval e X.env)::starEach es X.env:=by rfl) (eU:(backTo pos (starEach es X.env)).any (·.1)=false:=by rfl):
  PE X (.Call (.Name x p) (e::es) [] pos) (Pz C sp bo E t):=by
 intro pins s σ H Q I h;refine wpAny_Call_Name_kw (ur I hg hm ?_ lS);refine PySem.W.callWith_K (h₀:=X.base) I.ok.mod.kin M.kp (thn (ha pos pins s σ H _ I h) λus s1 ⟨vs,H1,I1,r,q⟩=>⟨I1.gT,?_⟩) he eU;exact Gx M F hr hb hd hx I1 r q
end
section
variable {X:Cx} {CX:qD} {k:Nat} {f C:Addr} {fd:FuncData} {ps ks:List Str} {sp:Sp} {E:XK} {x m:Str} {p pos apos aaj:Pos} {e o:Expr} {es:List Expr} {kws:List Keyword} {te ta:TE} {t tk:TA} {nm:Option Str}
variable {g:List Value→List Value→List Value} {gV:List V→List V→List V}
end
structure aI (N P:List Str) (sc:Scope):Prop where
 kind:sc.kind= .function
 co:sc.isCoroutine=false
 gen:sc.isGenerator=false
 nd:N.Nodup
 pre:N.take P.length=P
 par:∀x∈P,sc.names.lookup x=some .local∨sc.names.lookup x=some .cell
 nofree:∀y∈sc.names,y.2≠ .free
theorem tP{kindOf:Str→Option NameKind}{x:Str}:∀{binds:List (Str×Value)}{m:Str→Option Value},(∀v,(x,v)∉binds)→bindL kindOf binds m x=m x
 | [],_,_=>rfl
 | (n,v)::r,m,h=>by
  unfold bindL;rw [tP λw hw=>h w (cI _ hw)]
  split
  ·have:x≠n:=by rintro rfl;exact h v cB
   simp [this]
  ·rfl
theorem tN{kindOf:Str→Option NameKind}{x:Str}:∀{binds:List (Str×Value)}{m:Str→Option Value},(∀v,(x,v)∉binds)→bindC kindOf binds m x=m x
 | [],_,_=>rfl
 | (n,v)::r,m,h=>by
  unfold bindC;rw [tN λw hw=>h w (cI _ hw)]
  split
  ·rfl
  ·have:x≠n:=by rintro rfl;exact h v cB
   simp [this]
theorem tO{kindOf:Str→Option NameKind}{x:Str}{v:Value}:∀{P:List Str}{vs:List Value}{i:Nat}{m:Str→Option Value},P.Nodup→P[i]? =some x→vs[i]? =some v→kindOf x=some .local→
  bindL kindOf (P.zip vs) m x=some v
 | [],_,_,_,_,h,_,_=>by simp at h
 |_::_,[],_,_,_,_,h,_=>by simp at h
 |p::P,w::vs,0,m,nd,h1,h2,hk=>by
  simp at h1 h2;subst h1;subst h2;show bindL kindOf ((p,w)::P.zip vs) m p=_;unfold bindL;rw [tP λv hv=>(hU.mp nd).1 (List.of_mem_zip hv).1,if_pos hk];simp
 |p::P,w::vs,i+1,m,nd,h1,h2,hk=>by
  show bindL kindOf ((p,w)::P.zip vs) m x=_;unfold bindL;exact tO (i:=i) (hU.mp nd).2 (by simpa using h1) (by simpa using h2) hk
theorem tM{kindOf:Str→Option NameKind}{x:Str}{v:Value}:∀{P:List Str}{vs:List Value}{i:Nat}{m:Str→Option Value},P.Nodup→P[i]? =some x→vs[i]? =some v→kindOf x≠some .local→
  bindC kindOf (P.zip vs) m x=some v
 | [],_,_,_,_,h,_,_=>by simp at h
 |_::_,[],_,_,_,_,h,_=>by simp at h
 |p::P,w::vs,0,m,nd,h1,h2,hk=>by
  simp at h1 h2;subst h1;subst h2;show bindC kindOf ((p,w)::P.zip vs) m p=_;unfold bindC;rw [tN λv hv=>(hU.mp nd).1 (List.of_mem_zip hv).1,if_neg hk];simp
 |p::P,w::vs,i+1,m,nd,h1,h2,hk=>by
  show bindC kindOf ((p,w)::P.zip vs) m x=_;unfold bindC;exact tM (i:=i) (hU.mp nd).2 (by simpa using h1) (by simpa using h2) hk
def start(N:List Str)(vs:List V):St:=vs.map some++List.replicate (N.length-vs.length) none
def rM(CX:qD)(P:Program)(w:World)(K:PySem.W.Frag)(mg:Str→Option Value)(base:Heap)(N:List Str)(qual:Str)(scope:Scope)(f:Addr)(cd:Value)(A:Around)(outer:List Env)(s:Shared)(H:Hp)(E:XK):Cx where
 prog:=P
 w:=w
 K:=K
 mg:=mg
 base:=base
 A:=A.deeper (envOfC qual scope s.heap.objs.size f cd)
 N:=N
 s₀:=s
 H₀:=H
 env:=envOfC qual scope s.heap.objs.size f cd
 outer:=outer
 stack:=envOfC qual scope s.heap.objs.size f cd::outer
 ex:= []
 calm:=true
 fn:=λ_=>true
 pn:= []
 xe:=λe s'=>wpAny (model P w) (A.deeper (envOfC qual scope s.heap.objs.size f cd)) (leaving (envOfC qual scope s.heap.objs.size f cd) e) (λ_ Pn=>CX outer H s E e Pn) (λe' Pn=>CX outer H s E e' Pn) s'
theorem wo{sc:Scope}{n:Nat}{x:Str}(h:sc.names.lookup x=some .cell):∃c,(cellsFrom n sc.names []).lookup x=some c:=by
 have q:=PySem.W.cellsFrom_some sc.names n [] (.inl h);exact Option.isSome_iff_exists.mp q
theorem C8{CX:qD}{P:Program}{w:World}{K:PySem.W.Frag}{mg:Str→Option Value}{base:Heap}{N ps:List Str}{qual:Str}{scope:Scope}{f:Addr}{cd:Value}{A:Around}{outer:List Env}{s s1:Shared}{H:Hp}{E:XK}{us:List Value}{vs:List V}
  (S:aI N ps scope) (hd:A.handled=none) (e0:Env0 P w K mg base A outer s H) (hl:vs.length=ps.length) (r:Vals vs us)
  (x:InCallC s s.heap.objs.size (bindL (envOfC qual scope s.heap.objs.size f cd).kindOf (ps.zip us) λ_=>none) (cellsFrom (s.heap.objs.size+1) scope.names []) (bindC (envOfC qual scope s.heap.objs.size f cd).kindOf (ps.zip us) λ_=>none) s1):
  Inv (rM CX P w K mg base N qual scope f cd A outer s H E) [] (start N vs) H s1:=by
 have eU:ps.length≤N.length:=by have:=congrArg List.length S.pre;rw [cm] at this;omega
 obtain ⟨h1,tk,rfl,hk⟩:=x.done;have IG:∀b:Addr,b∉(rM CX P w K mg base N qual scope f cd A outer s H E).ex:=λb z=>absurd (show b∈([]:List Addr) from z) (by simp)
 refine ⟨⟨e0.mod,S.kind,rfl,rfl,bx _,λy z c h1 h2=>?_,λy hy=>?_,λy c _ h=>?_,λ_=>hd,Around.frames_deeper e0.frames, .inr ⟨rfl,rfl⟩,λb z=>absurd z (IG b),e0.bs,e0.bsz,λb _ _=>IG b,λb z=>absurd z (IG b),e0.funs,e0.frf⟩,
  rfl,e0.bare,Un.kept hk,⟨_,x.toInCall.ns,λi y v h1 h2 h3=>?_⟩,λy c h=>⟨_,x.cell y c h⟩,e0.hok.fresh (bx _),λy c h=>?_,λp hp=>absurd (show p∈([]:List (Addr×Obj)) from hp) (by simp),e0.hok.kept hk,?_⟩
 ·exact name_of_addr x.apart (PySem.mem_of_lookup h1) (PySem.mem_of_lookup h2)
 ·have hy:scope.names.lookup y=some .cell∨scope.names.lookup y=some .free:=hy
  rcases hy with hy|hy
  ·exact wo hy
  ·exact absurd rfl (S.nofree _ (PySem.mem_of_lookup hy))
 ·exact mK (x.above y c (PySem.mem_of_lookup h))
 ·have hi:i<vs.length:=by
   unfold start at h2
   by_cases hi:i<vs.length
   ·exact hi
   ·rw [fZ (by simpa using hi)] at h2
    rw [Az] at h2
    split at h2<;>cases h2
  have ha:vs[i]? =some v:=by
   unfold start at h2;rw [eB (by simpa using hi),fc] at h2
   cases e:vs[i]? with
   |none=>rw [e] at h2;cases h2
   |some a=>rw [e] at h2;cases h2;rfl
  obtain ⟨u,hu,rv⟩:=r.get ha
  have hp:ps[i]? =some y:=by
   rw [←S.pre,sA (by omega)];exact h1
  have Tj:ps.Nodup:=by rw [←S.pre];exact S.nd.sublist (List.take_sublist _ _)
  refine ⟨u,rv,?_⟩
  rcases S.par y (gd hp) with k|k
  ·exact .inl ⟨k,tO Tj hp hu k⟩
  ·obtain ⟨c,e⟩:=wo (n:=s.heap.objs.size+1) k
   refine .inr ⟨.inl k,c,e,?_⟩;have q:=x.cell y c e;rw [tM Tj hp hu (by show scope.names.lookup y≠_;rw [k];decide)] at q
   exact q
 ·exact e0.hok.fresh (mK (x.above y c (PySem.mem_of_lookup h)))
 ·unfold start
  show _=N.length;rw [b9,aK,yy];omega
theorem NY{CX:qD}{P:Program}{w:World}{K:PySem.W.Frag}{mg:Str→Option Value}{base:Heap}{k:Nat}{f:Addr}{name qual:Str}{params:Arguments}{body:List Stmt}{scope:Scope}{dV kV doc pm bF ct oc:Value}{an od:Option Addr}
  {BH:Array (Option Value)} {N ps:List Str} {sp:Sp} (lk:K.lookup f=some ⟨oc,od, .func (PySem.W.fnOf name qual params body scope dV kV doc pm an bF ct),BH⟩) (fT:PySem.W.codeIn K bF qual=true) (S:aI N ps scope)
  (len:∀vs H Q E,sp vs H Q E→vs.length=ps.length)
  (oE:∀(A:Around)(outer:List Env)(s:Shared)(H:Hp)(vs:List V)(Q:VK)(E:XK),cC k (A.deeper (envOfC qual scope s.heap.objs.size f bF))→sp vs H Q E→
   ∃t,lD (rM CX P w K mg base N qual scope f bF A outer s H E) body t∧t {nx:=λ_ H'=>Q .bf H',rt:=Q} (start N vs) H):
  FnOk P w K mg base CX (k+1) f (PySem.W.fnOf name qual params body scope dV kV doc pm an bF ct) ps sp:=by
 refine ⟨len,λA outer s H args us vs Q E hr e0 hb r Bq=>?_⟩;have hl:=len _ _ _ _ Bq;have KX:K.In s.heap:=e0.mod.kin.keeps λb o e=>(e0.bs b o e).1;have lim:s.heap.NoLimit:=e0.mod.nolimit.keeps λb o e=>(e0.bs b o e).1
 have Oy:∀y∈ps.zip us,scope.names.lookup y.1=some .local∨(scope.names.lookup y.1=some .cell∧((cellsFrom (s.heap.objs.size+1) scope.names []).lookup y.1).isSome=true):=λ⟨n,v⟩ hy=>by
  rcases S.par n (List.of_mem_zip hy).1 with q|q
  ·exact .inl q
  ·exact .inr ⟨q,PySem.W.cellsFrom_some _ _ _ (.inl q)⟩
 refine codeAny_call_function hr.depth (KX _ _ lk) rfl S.co S.gen rfl (PySem.W.codeRec_of KX fT) (hb _ _ _ _ ?_);refine wpAny_newFunctionEnv_cells S.kind Oy λenv he s1 x=>?_;subst he;refine ⟨lim.keeps x.toInCall.keep,codeAny_func ?_⟩;obtain ⟨t,ht,hq⟩:=oE A outer s H vs Q E (hr.deeper _) Bq;have I:Inv (rM CX P w K mg base N qual scope f bF A outer s H E) [] (start N vs) H s1:=C8 S hr.hd e0 hl r x;refine wpAny_mono (ht [] s1 (start N vs) H _ I hq) (λfl s' hs=>?_) λe s' hs=>hs
 have fin:∀{aw:St}{H':Hp}{v:V}{u:Value},Inv (rM CX P w K mg base N qual scope f bF A outer s H E) [] aw H' s'→RelV v u→Q v H'→CE outer P w H s Q u s':=
  λ {aw H' v u} J rv q=>⟨v,H',J.os,J.bare,J.base,J.hok,rv,q⟩
 cases fl with
 |ret u=>
  obtain ⟨v,aw,H',J,rv,q⟩:=hs;exact fin J rv q
 |next=>
  obtain ⟨aw,H',J,q⟩:=hs;exact fin (v:=V.bf) (u:=Value.none) J rfl q
 |brk=>
  obtain ⟨_,_,_,q⟩:=hs;exact False.elim q
 |cont=>
  obtain ⟨_,_,_,q⟩:=hs;exact False.elim q
section
variable {X:Cx} {x:Str} {p pos:Pos} {e:Expr} {es:List Expr} {t:TA} {id T:String} {r:List V→Hp→VK→Prop}
def Vo(r:List V→Hp→VK→Prop)(t:TA):TE:=λσ H Q=>t σ H λvs H1=>r vs H1 Q
theorem xc(hc:dU X (.builtin id) r)(hg:Gl X x)(hm:X.mg x=none)(hv:bootBuiltins x=some (.builtin id))(ha:PA X (e::es) t)(hn:x≠"__name__":=by decide)(lS:(x==("__debug__":Str))=false:=by decide)
  (he:starEach (e::es) X.env=(false,eval e X.env)::starEach es X.env:=by rfl) (eU:(backTo pos (starEach es X.env)).any (·.1)=false:=by rfl):PE X (.Call (.Name x p) (e::es) [] pos) (Vo r t):=by
 intro pins s σ H Q I h;refine wpAny_Call_Name_kw (ic I hg hm hv ?_ hn lS);exact PyProof.Rows.callWith_builtin1 (thn (ha pos pins s σ H _ I h) λus s1 ⟨vs,H1,I1,r1,q1⟩=>hc pins s1 σ H1 vs us Q I1 r1 q1) he eU
theorem DP(hc:dU X (.type T) r)(hg:Gl X x)(hm:X.mg x=none)(hv:bootBuiltins x=some (.type T))(ha:PA X (e::es) t)(hn:x≠"__name__":=by decide)(lS:(x==("__debug__":Str))=false:=by decide)
  (he:starEach (e::es) X.env=(false,eval e X.env)::starEach es X.env:=by rfl) (eU:(backTo pos (starEach es X.env)).any (·.1)=false:=by rfl):PE X (.Call (.Name x p) (e::es) [] pos) (Vo r t):=by
 intro pins s σ H Q I h;refine wpAny_Call_Name_kw (ic I hg hm hv ?_ hn lS);exact PyProof.Rows.callWith_type1 (thn (ha pos pins s σ H _ I h) λus s1 ⟨vs,H1,I1,r1,q1⟩=>hc pins s1 σ H1 vs us Q I1 r1 q1) he eU
end
end L2
namespace HT
open PySem PyProof.Rows
section
open PySem.SeqAt
open PySem.AutoSeq1 (wpAny_loadPart')
open PySem.MeetsSeq PySem.MeetsSeq2 PySem.MeetsSeq3
end
section
variable {prog:Program} {w:World} {A:Around} {E:Value→Shared→Prop} {s:Shared}
theorem Hh{t b:Addr}{vs ws:List Value}{Q:Value→Shared→Prop}(ht:IsTup s.heap t vs.toArray)(hb:IsTup s.heap b ws.toArray)(hv:vs≠ [])
  (h1:ws= []→Q (.ref t) s) (h2:ws≠ []→Q (.ref s.heap.objs.size) {s with heap:=s.heap.push {cls:= .type "tuple",data:= .seq (vs++ws).toArray}})
  (eD:vs.length+ws.length≤sizeLine):wpAny (model prog w) A (binaryOp .Add (.ref t) (.ref b)) Q E s:=by
 obtain ⟨⟨cls,dd,data,sl⟩,ho,hc,n,hd⟩:=id ht;obtain ⟨⟨aab,Ru,data2,LB⟩,Bo,RO,n2,hd2⟩:=id hb;simp only at hc hd RO hd2;subst hc hd RO hd2;have e:vs.toArray++ws.toArray=(vs++ws).toArray:=by simp
 by_cases hw:ws= []
 ·exact concat_meets ⟨_,ho,rfl⟩ ⟨_,Bo,rfl⟩ noFill_tuple_add seq_tuple_add PySem.F.slot_tuple_add PySem.F.entry_tuple_add (PySem.F.args_tuple_add_2 _ _)
   (tuple_addW1 t b vs.toArray ws.toArray n n2 dd Ru sl LB (by simpa using hv) (by simp [hw])) ⟨ho,Bo,h1 hw⟩
 ·refine concat_meets ⟨_,ho,rfl⟩ ⟨_,Bo,rfl⟩ noFill_tuple_add seq_tuple_add PySem.F.slot_tuple_add PySem.F.entry_tuple_add (PySem.F.args_tuple_add_2 _ _)
   (tuple_addW2 t b vs.toArray ws.toArray n n2 dd Ru sl LB (by simpa using hv) (by simpa using hw) (by rw [b8,b8];exact eD)) ⟨ho,Bo,?_⟩
  rw [e];exact h2 hw
def bD(n d:Nat):Option Int→Nat
 |none=>d
 |some v=>if v<0 then (v+(n:Int)).toNat else min v.toNat n
theorem LA(n d:Nat)(hd:d≤n)(o:Option Int):bD n d o≤n:=by
 cases o with
 |none=>exact hd
 |some v=>
  show (if v<0 then (v+(n:Int)).toNat else min v.toNat n)≤n
  by_cases hv:v<0
  ·rw [if_pos hv];omega
  ·rw [if_neg hv];exact Nat.min_le_right _ _
theorem AW(v:Int)(n d:Nat):(if v<0 then max (v+(n:Int)) 0 else min v (n:Int))=((bD n d (some v):Nat):Int):=by
 show (if v<0 then max (v+(n:Int)) 0 else min v (n:Int))=(((if v<0 then (v+(n:Int)).toNat else min v.toNat n):Nat):Int)
 by_cases hv:v<0
 ·simp only [if_pos hv];omega
 ·simp only [if_neg hv];omega
theorem AK(lo hi:Option Int)(n:Nat):Builtin.Slice.sliceAdjust lo hi 1 (n:Int)=(((bD n 0 lo:Nat):Int),((bD n n hi:Nat):Int)):=by
 have h1:¬((1:Int)<0):=by omega
 unfold Builtin.Slice.sliceAdjust;simp only [h1,if_false];refine Prod.ext ?_ ?_
 ·cases lo with
  |none=>rfl
  |some v=>exact AW v n 0
 ·cases hi with
  |none=>rfl
  |some v=>exact AW v n n
theorem BN(i j:Nat):Builtin.Slice.slicePlaces (i:Int) (j:Int) 1=j-i:=by
 unfold Builtin.Slice.slicePlaces;have h1:(1:Int)>0:=by omega
 simp only [h1,if_true,Int.ediv_one]
 split<;>omega
theorem r8{v:Value}{o:Option Int}{Q:Option Int→Shared→Prop}(p:IsPart v o)(h:Q o s):wpAny (model prog w) A (Builtin.Slice.slicePartIndex v) Q E s:=by
 cases p with
 |none=>exact slicePart_none h
 |int i t=>exact slicePart_int h
theorem qj{sl:Addr}{vl vu:Value}{lo hi:Option Int}{n:Nat}{Q:Int×Int×Nat→Shared→Prop}(hs:s.heap.IsSliceOf sl vl vu .none)(pl:IsPart vl lo)(pu:IsPart vu hi)
  (h:Q (((bD n 0 lo:Nat):Int),1,bD n n hi-bD n 0 lo) s):wpAny (model prog w) A (Builtin.Slice.sliceApplied (.ref sl) (pure (n:Int))) Q E s:=by
 obtain ⟨os,zg,RU,FO⟩:=id hs;unfold Builtin.Slice.sliceApplied Builtin.Slice.sliceFields;refine wpAny_bind (wpAny_bind (wpAny_field zg FO (x:=vl) rfl (wpAny_bind (wpAny_field zg FO (x:=vu) rfl (wpAny_bind (wpAny_field zg FO (x:= .none) rfl (wpAny_pure ?_)))))));refine wpAny_bind (slicePart_none ?_);show wpAny _ _ (if ((1:Int)==0)=true then _ else _) _ _ s;rw [if_neg (by decide)]
 refine wpAny_bind (r8 pl (wpAny_bind (r8 pu (wpAny_bind (wpAny_pure ?_)))));show wpAny _ _ (match Builtin.Slice.sliceAdjust lo hi 1 (n:Int) with| (lo,hi)=>pure (lo,(1:Int),Builtin.Slice.slicePlaces lo hi 1)) _ _ s
 rw [AK lo hi n];show wpAny _ _ (pure (((bD n 0 lo:Nat):Int),(1:Int),Builtin.Slice.slicePlaces ((bD n 0 lo:Nat):Int) ((bD n n hi:Nat):Int) 1)) _ _ s;rw [BN];exact wpAny_pure h
theorem Gm(xs:Array Value)(i k:Nat):((List.range k).filterMap λ(m:Nat)=>xs[((i:Int)+(m:Int)*1).toNat]?).toArray=((xs.toList.drop i).take k).toArray:=by
 have e:(λ(m:Nat)=>xs[((i:Int)+(m:Int)*1).toNat]?)=λm=>xs[i+m]? :=by
  funext m
  have:((i:Int)+(m:Int)*1).toNat=i+m:=by omega
  rw [this]
 rw [e]
 have:=pick_run xs i k
 rw [List.filterMap_map] at this;have e2:((λx=>xs[x]?)∘λx=>i+x)=λm=>xs[i+m]? :=rfl;rw [e2] at this;rw [this]
theorem oz{t sl:Addr}{items:Array Value}{vl vu:Value}{lo hi:Option Int}{Q:Value→Shared→Prop}(ht:IsTup s.heap t items)(hs:s.heap.IsSliceOf sl vl vu .none)(pl:IsPart vl lo)(pu:IsPart vu hi)
  (hw:¬(bD items.size 0 lo=0∧bD items.size items.size hi=items.size))
  (h:Q (.ref s.heap.objs.size) {s with heap:=s.heap.push {cls:= .type "tuple",data:= .seq ((items.toList.drop (bD items.size 0 lo)).take (bD items.size items.size hi-bD items.size 0 lo)).toArray}})
  (eD:items.size≤sizeLine):wpAny (model prog w) A (getItem (.ref t) (.ref sl)) Q E s:=by
 have zi:sizeOk (.seq ((items.toList.drop (bD items.size 0 lo)).take (bD items.size items.size hi-bD items.size 0 lo)).toArray):=by
  show ((items.toList.drop (bD items.size 0 lo)).take (bD items.size items.size hi-bD items.size 0 lo)).toArray.size≤sizeLine;rw [b8,cm,fw,dA];omega
 have hj:bD items.size items.size hi≤items.size:=LA _ _ (bx _) hi;obtain ⟨os,zg,RU,FO⟩:=id hs;have Xo:s.TypeIs (.ref sl) "slice":=⟨os,zg,RU⟩;unfold getItem
 try with_reducible refine wpAny_holding ?_
 first|refine wpAny_bind (wpAny_pure ?_) |skip
 refine wpAny_bind (wpAny_sequenceKey ht.typeIs (by decide) ?_)
 refine wpAny_bind (wpAny_callSpecial?_slot (name:=Str.ofString "__getitem__") ht.typeIs PyProof.Rows.slot_tuple_getitem
  (wpAny_call_entry PyProof.Rows.slot_tuple_getitem ht.typeIs entry_tuple_getitem ?_ (args_tuple_getitem _ _)))
 show wpAny _ _ (Builtin.Tuple.tupleItemsOf (.ref t)>>=_) _ _ s;refine wpAny_bind (tupleItemsOf_ ht ?_);refine wpAny_bind (wpAny_typeOf Xo ?_);rw [if_pos (by decide)]
 refine wpAny_bind (qj hs pl pu ?_)
 have OC:¬((((bD items.size 0 lo:Nat):Int)==0&&(1:Int)==1&&(bD items.size items.size hi-bD items.size 0 lo)==items.size)=true):=by
  intro q;rw [vK,vK] at q;have q1:((bD items.size 0 lo:Nat):Int)=0:=eq_of_beq q.1.1;have q2:bD items.size items.size hi-bD items.size 0 lo=items.size:=eq_of_beq q.2;exact hw ⟨by omega,by omega⟩
 show wpAny _ _ (if (((bD items.size 0 lo:Nat):Int)==0&&(1:Int)==1&&(bD items.size items.size hi-bD items.size 0 lo)==items.size)=true then _ else _) _ _ s;rw [if_neg OC,Gm]
 first
  |exact wpAny_bind (m:=Builtin.Tuple.tupleExact _) (wpAny_newObj_type (wpAny_pure ⟨_,rfl,wpAny_pure h⟩) zi)
  |exact wpAny_bind (m:=Builtin.Tuple.tupleExact _) (wpAny_newObj_type (wpAny_bind (wpAny_pure (wpAny_pure ⟨_,rfl,wpAny_pure h⟩))) zi)
  |exact wpAny_bind (wpAny_bind (m:=Builtin.Tuple.tupleExact _) (wpAny_newObj_type (wpAny_pure (wpAny_pure ⟨_,rfl,wpAny_pure h⟩)) zi))
  |exact wpAny_bind (wpAny_bind (m:=Builtin.Tuple.tupleExact _) (wpAny_newObj_type (wpAny_pure ⟨_,rfl,wpAny_pure h⟩) zi))
end
end HT
namespace L2
open PySem PySem.Spec PyProof.Rows
abbrev TO:=St→Hp→(Option Int→Hp→Prop)→Prop
def PO(X:Cx)(e:Option Expr)(t:TO):Prop:=
 ∀(pins:List (Addr×Obj))(s:Shared)(σ:St)(H:Hp)(Q:Option Int→Hp→Prop),Inv X pins σ H s→t σ H Q→
  wpAny (model X.prog X.w) X.A (evalPart e X.env) (λu s'=>∃o H',Inv X pins σ H' s'∧IsPart u o∧Q o H') X.xe s
def JR:TO:=λ_ H Q=>Q none H
def PD(t:TE):TO:=λσ H Q=>t σ H λx H1=>∃i,x= .int i∧Q (some i) H1
theorem intsAre_of{ns:List Int}:∀{us:List Value},Vals (ns.map V.int) us→IntsAre us ns:=by
 induction ns with
 |nil=>intro us r;rw [List.map_nil] at r;cases r;exact .nil
 |cons n ns ih=>
  intro us r;rw [iV] at r;cases r with
  |cons r1 r2=>
   obtain ⟨t,e⟩:=r1;subst e;exact .cons n t (ih r2)
section
variable {X:Cx} {e:Expr} {te:TE} {lo hi:Option Expr} {tl th:TO} {pos p2:Pos}
theorem Jj:PO X none JR:=by
 intro pins s σ H Q I h;rw [evalPart_none];exact wpAny_pure ⟨none,H,I, .none,h⟩
theorem Jk(h:PE X e te):PO X (some e) (PD te):=by
 intro pins s σ H Q I hw;rw [evalPart_some];refine thn (h pins s σ H _ I hw) λu s1 ⟨x,H1,I1,r1,q1⟩=>?_;obtain ⟨i,rfl,q⟩:=q1;obtain ⟨t,rfl⟩:=r1;exact ⟨some i,H1,I1, .int i t,q⟩
def Ct(X:Cx)(r:V→Option Int→Option Int→Hp→VK→Prop):Prop:=
 ∀(pins:List (Addr×Obj))(s:Shared)(σ:St)(H:Hp)(x:V)(v vl vu:Value)(lo hi:Option Int)(sl:Addr)(Q:VK),Inv X pins σ H s→RelV x v→s.heap.IsSliceOf sl vl vu .none→IsPart vl lo→IsPart vu hi→r x lo hi H Q→
  ∃T id,typeLookup (.type T) "__getitem__"=pure (some (.builtin id))∧s.TypeIs v T∧wpAny (model X.prog X.w) X.A (getItem v (.ref sl)) (EP X pins σ Q) X.xe s
theorem Ct.or{r r':V→Option Int→Option Int→Hp→VK→Prop}(h:Ct X r)(h':Ct X r'):Ct X (λx lo hi H Q=>r x lo hi H Q∨r' x lo hi H Q):=by
 intro pins s σ H x v vl vu lo hi sl Q I rx hs pl pu q
 rcases q with q|q
 ·exact h pins s σ H x v vl vu lo hi sl Q I rx hs pl pu q
 ·exact h' pins s σ H x v vl vu lo hi sl Q I rx hs pl pu q
def tSl(r:V→Option Int→Option Int→Hp→VK→Prop)(te:TE)(tl th:TO):TE:=λσ H Q=>te σ H λx H1=>tl σ H1 λl H2=>th σ H2 λu H3=>r x l u H3 Q
theorem xf{r:V→Option Int→Option Int→Hp→VK→Prop}(hr:Ct X r)(he:PE X e te)(hl:PO X lo tl)(hu:PO X hi th):PE X (.Subscript e (.Slice lo hi none p2) pos) (tSl r te tl th):=by
 intro pins s σ H Q I h;refine Subscript_ (thn (he pins s σ H _ I h) λv s1 ⟨x,H1,I1,r1,q1⟩=>?_);refine wpAny_Slice (thn (hl pins s1 σ H1 _ I1 q1) λvl s2 ⟨l,H2,I2,pl,q2⟩=>thn (hu pins s2 σ H2 _ I2 q2) λvu s3 ⟨u,H3,I3,pu,q3⟩=>?_);rw [evalPart_none];refine wpAny_pure ?_;have I4:Inv X pins σ H3 {s3 with heap:=s3.heap.push {cls:= .type "slice",data:= .fields #[vl,vu, .none]}}:=I3.kept (t':=s3.toks) λb ob q=>Heap.get?_push_of_some _ q
 obtain ⟨T,id,hT,ht,hg⟩:=hr pins {s3 with heap:=s3.heap.push {cls:= .type "slice",data:= .fields #[vl,vu, .none]}} σ H3 x v vl vu l u s3.heap.objs.size Q I4 r1 (Heap.IsSliceOf.new ..) pl pu q3
 show wpAny (model X.prog X.w) X.A (subscriptTail e (.Slice lo hi none p2) v (.ref s3.heap.objs.size)) (EP X pins σ Q) X.xe {s3 with heap:=s3.heap.push {cls:= .type "slice",data:= .fields #[vl,vu, .none]}}
 exact tail_any (ops:= [.ref s3.heap.objs.size,v]) ht hT hg (by with_unfolding_all rfl)
def rL(xs:List V)(lo hi:Option Int):List V:=(xs.drop (HT.bD xs.length 0 lo)).take (HT.bD xs.length xs.length hi-HT.bD xs.length 0 lo)
theorem pb(xs:List V)(lo hi:Option Int):(rL xs lo hi).length≤xs.length:=by
 unfold rL;rw [cm,fw];omega
def UN(K:PySem.W.Frag):V→Option Int→Option Int→Hp→VK→Prop:=λx lo hi H Q=>∃a xs,x= .ref a∧fR K H a xs∧
 ¬(HT.bD xs.length 0 lo=0∧HT.bD xs.length xs.length hi=xs.length)∧∀p,H p=none→Q (.ref p) (upd H p (.tup (rL xs lo hi)))
theorem LC:Ct X (UN X.K):=by
 intro pins s σ H x v vl vu lo hi sl Q I rx hs pl pu h;obtain ⟨a,xs,rfl,hx,hw,q⟩:=h;cases rx;obtain ⟨its,r,ht,hz⟩:=I.tuple hx;have hlen:its.toArray.size=xs.length:=by rw [b8];exact r.length.symm
 refine ⟨"tuple",_,PyProof.Rows.slot_tuple_getitem.lookup,ht.typeIs,?_⟩;refine HT.oz ht hs pl pu (by rw [hlen];exact hw) ?_ (by rw [hlen];exact hz)
 rw [hlen];refine ⟨.ref s.heap.objs.size,_,I.laid (t':=s.toks) (o:= .tup (rL xs lo hi)) (λb ob q=>Heap.get?_push_of_some _ q) (bx _) ?_,rfl,q _ (I.hok.fresh (bx _))⟩;exact ⟨kX (pb xs lo hi) hz,_,(r.drop (HT.bD xs.length 0 lo)).take (HT.bD xs.length xs.length hi-HT.bD xs.length 0 lo),IsTup.new _ _⟩
def Pj(K:PySem.W.Frag):R2:=λx y H Q=>∃a b xs ys,x= .ref a∧y= .ref b∧fR K H a xs∧fR K H b ys∧xs≠ []∧xs.length+ys.length≤sizeLine∧
 (ys= []→Q (.ref a) H)∧(ys≠ []→∀p,H p=none→Q (.ref p) (upd H p (.tup (xs++ys))))
theorem Vals.uC{xs:List V}{us:List Value}(r:Vals xs us):us= []↔xs= []:=by
 cases r with
 |nil=>simp
 |cons _ _=>simp
theorem IQ:OpR X (binaryOp .Add) (Pj X.K):=by
 intro pins s σ H x y v u Q I rx ry h;obtain ⟨a,b,xs,ys,rfl,rfl,ha,hb,hx,hz,q1,q2⟩:=h;cases rx;cases ry;obtain ⟨its,r1,p1,_⟩:=I.tuple ha;obtain ⟨rR,r2,p2,_⟩:=I.tuple hb;refine HT.Hh p1 p2 (λz=>hx (r1.uC.mp z)) (λz=>⟨.ref a,H,I,rfl,q1 (r2.uC.mp z)⟩) (λz=>?_) (by rw [←r1.length,←r2.length];exact hz)
 refine ⟨.ref s.heap.objs.size,_,I.laid (t':=s.toks) (o:= .tup (xs++ys)) (λb ob q=>Heap.get?_push_of_some _ q) (bx _) ?_,rfl,q2 (λw=>z (r2.uC.mpr w)) _ (I.hok.fresh (bx _))⟩;exact ⟨by rw [b9];exact hz,_,r1.append r2,IsTup.new _ _⟩
end
def oF(n:Nat)(i:Int):Option Nat:=if 0≤i then (if i<n then some i.toNat else none) else if-(n:Int)≤i then some (i+n).toNat else none
def gD{α:Type}(xs:List α)(i:Int):Option α:=(oF xs.length i).bind λj=>xs[j]?
theorem Bw{n:Nat}{i:Int}{j:Nat}(h:oF n i=some j):seqIndex? i n=some j∧j<n∧-(n:Int)≤i∧i<n:=by
 unfold oF at h
 by_cases h0:0≤i
 ·rw [if_pos h0] at h
  by_cases h1:i<n
  ·rw [if_pos h1] at h
   have e:i.toNat=j:=Option.some.inj h;exact ⟨by rw [seqIndex_of h0 h1,e],by omega,by omega,h1⟩
  ·rw [if_neg h1] at h;cases h
 ·rw [if_neg h0] at h
  by_cases h1: -(n:Int)≤i
  ·rw [if_pos h1] at h
   have e:(i+n).toNat=j:=Option.some.inj h;exact ⟨by rw [seqIndex_neg (by omega) h1,e],by omega,h1,by omega⟩
  ·rw [if_neg h1] at h;cases h
theorem AM{α:Type}{xs:List α}{i:Int}{v:α}(h:gD xs i=some v):∃j,seqIndex? i xs.length=some j∧xs[j]? =some v∧j<xs.length∧-(xs.length:Int)≤i∧i<xs.length:=by
 unfold gD at h;cases e:oF xs.length i with
 |none=>rw [e] at h;cases h
 |some j=>
  rw [e] at h;obtain ⟨h1,h2,h3,h4⟩:=Bw e;exact ⟨j,h1,h,h2,h3,h4⟩
theorem AN{α:Type}{xs:List α}{j:Nat}{v:α}(h:xs[j]? =some v):gD xs (j:Int)=some v:=by
 have hj:j<xs.length:=(eO.mp h).1
 have e:oF xs.length (j:Int)=some j:=by
  unfold oF;rw [if_pos (by omega),if_pos (by omega)];simp
 unfold gD;rw [e];exact h
def AJ(b:Expr):Prop:=∀o i,subscripted b false o i=operate [o,i] (getItem o i)
def Cq(X:Cx)(r:R2):Prop:=
 ∀(value slice:Expr)(pins:List (Addr×Obj))(s:Shared)(σ:St)(H:Hp)(x y:V)(v u:Value)(Q:VK),Inv X pins σ H s→RelV x v→RelV y u→r x y H Q→
  subscripted slice false v u=operate [v,u] (getItem v u)→wpAny (model X.prog X.w) X.A (subscriptTail value slice v u) (EP X pins σ Q) X.xe s
def GV(X:Cx)(id:String)(r:V→List V→Hp→VK→Prop):Prop:=
 ∀(pins:List (Addr×Obj))(s:Shared)(σ:St)(H:Hp)(x:V)(xs:List V)(v:Value)(us:List Value)(Q:VK),Inv X pins σ H s→RelV x v→Vals xs us→r x xs H Q→
  wpAny (model X.prog X.w) X.A (call (.builtin id) (v::us)) (EP X pins σ Q) X.xe s
section
variable {X:Cx} {a b:Expr} {ta tb:TE} {pos:Pos}
theorem Cq.or{r r':R2}(h:Cq X r)(h':Cq X r'):Cq X (λx y H Q=>r x y H Q∨r' x y H Q):=by
 intro value slice pins s σ H x y v u Q I rx ry q hs
 rcases q with q|q
 ·exact h value slice pins s σ H x y v u Q I rx ry q hs
 ·exact h' value slice pins s σ H x y v u Q I rx ry q hs
theorem O8{r:R2}(hr:Cq X r)(ha:PE X a ta)(hb:PE X b tb)(hs:AJ b):PE X (.Subscript a b pos) (JS r ta tb):=by
 intro pins s σ H Q I h;exact Subscript_ (He ha hb I h λv u s2 x y H2 I2 rx ry q=>hr a b pins s2 σ H2 x y v u Q I2 rx ry q (hs _ _))
def UH(K:PySem.W.Frag):R2:=λx y H Q=>∃p xs i v,x= .ref p∧y= .int i∧cp K H p xs∧gD xs i=some v∧Q v H
def UI(K:PySem.W.Frag):R2:=λx y H Q=>∃p xs i v,x= .ref p∧y= .int i∧fR K H p xs∧gD xs i=some v∧Q v H
theorem Ip:Cq X (UH X.K):=by
 intro value slice pins s σ H x y v u Q I rx ry h hs;obtain ⟨p,xs,i,z,rfl,rfl,hq,he,q⟩:=h;cases rx;obtain ⟨t,rfl⟩:=ry;obtain ⟨its,r,pl,hz⟩:=I.list hq;obtain ⟨j,h1,h2,h3,h4,h5⟩:=AM he;obtain ⟨w,ew,Jz⟩:=r.get h2;have hl:=r.length;have hn:=ke;have fin:EP X pins σ Q w s:=⟨z,H,I,Jz,q⟩
 by_cases h0:0≤i
 ·have hj:i.toNat=j:=by
   rw [seqIndex_of h0 h5] at h1;exact Option.some.inj h1
  exact item_listR pl.isList h0 (by omega) (by rw [hj];simpa using ew) fin hs
 ·have hj:(i+(its.toArray.size:Int)).toNat=j:=by
   rw [seqIndex_neg (by omega) h4] at h1
   rw [b8,←hl];exact Option.some.inj h1
  exact subscriptTail_builtinR (x:=w) pl.isList.typeIs slot_list_getitem.lookup
   (wpAny_getItem_list_neg (Q:=λr s'=>r=w∧EP X pins σ Q r s') pl.isList (by omega) (by rw [b8]<;>omega) (by omega) (by rw [hj];simpa using ew) ⟨rfl,fin⟩) hs
theorem KI:Cq X (UI X.K):=by
 intro value slice pins s σ H x y v u Q I rx ry h hs;obtain ⟨p,xs,i,z,rfl,rfl,hq,he,q⟩:=h;cases rx;obtain ⟨t,rfl⟩:=ry;obtain ⟨its,r,pl,hz⟩:=I.tuple hq;obtain ⟨j,h1,h2,h3,h4,h5⟩:=AM he;obtain ⟨w,ew,Jz⟩:=r.get h2;have hl:=r.length;have hn:=ke;have fin:EP X pins σ Q w s:=⟨z,H,I,Jz,q⟩
 exact subscriptTail_builtinR (x:=w) pl.typeIs slot_tuple_getitem.lookup
  (getItem_tuple (j:=j) (Q:=λr s'=>r=w∧EP X pins σ Q r s') pl (by omega) (by omega) (by rw [b8,←hl];exact h1) (by simpa using ew) ⟨rfl,fin⟩) hs
theorem BD(its:List Value)(n j:Nat)(u:Value):Obj.mapSeq (·.setIfInBounds j u) {cls:= .type "list",data:= .seq its.toArray n}={cls:= .type "list",data:= .seq (its.set j u).toArray n}:=by
 simp [Obj.mapSeq]
theorem Inv.lst{pins:List (Addr×Obj)}{σ:St}{H:Hp}{s:Shared}{p:Addr}{xs:List V}(I:Inv X pins σ H s)(h:H p=some (.lst xs)):
  ∃(its:List Value)(n:Nat),Vals xs its∧s.heap.get? p=some {cls:= .type "list",data:= .seq its.toArray n}∧xs.length≤sizeLine:=by
 obtain ⟨z,its,n,r,e⟩:=I.hok p _ h;exact ⟨its,n,r,e,z⟩
theorem Inv.K1{pins:List (Addr×Obj)}{σ:St}{H:Hp}{s:Shared}{p:Addr}{xs ys:List V}{its its':List Value}{n n':Nat}{f:Obj→Obj}(I:Inv X pins σ H s)(h:H p=some (.lst xs))
  (ho:s.heap.get? p=some {cls:= .type "list",data:= .seq its.toArray n}) (hf:f {cls:= .type "list",data:= .seq its.toArray n}={cls:= .type "list",data:= .seq its'.toArray n'}) (r:Vals ys its') (hz:ys.length≤sizeLine) (t:Nat):
  Inv X pins σ (upd H p (.lst ys)) {s with heap:=s.heap.update p f,toks:=t}:=by
 have e:(s.heap.update p f).get? p=some {cls:= .type "list",data:= .seq its'.toArray n'}:=by
  rw [Heap.get?_update_self f ho (by rw [hf]<;>rfl),hf]
 refine I.write (x:=p) (e:=p) (by rw [h];trivial) (.inl rfl) (λb u hb q=>(Heap.get?_update_other _ _ (Ne.symm hb)).trans q) ⟨_,e⟩ ?_
 exact ⟨hz,its',n',r,e⟩
def Pl:V→V→V→Hp→(Hp→Prop)→Prop:=λo i v H Q=>∃p xs k j,o= .ref p∧i= .int k∧H p=some (.lst xs)∧oF xs.length k=some j∧Q (upd H p (.lst (xs.set j v)))
theorem set_list:LY X Pl:=by
 intro pins s σ H o i v ov iv u Q I ro ri rv h;obtain ⟨p,xs,k,j,rfl,rfl,hp,hj,q⟩:=h;cases ro;obtain ⟨t,rfl⟩:=ri;obtain ⟨its,n,r,ho,hz⟩:=I.lst hp;obtain ⟨h1,h2,h3,h4⟩:=Bw hj;have hl:=r.length;have hn:=ke
 have I':Inv X pins σ (upd H p (.lst (xs.set j v))) {s with heap:=s.heap.update p (Obj.mapSeq (·.setIfInBounds j u))}:=
  I.K1 hp ho (BD its n j u) (r.set rv j) (by rw [kT];exact hz) s.toks
 by_cases h0:0≤k
 ·have hk:k.toNat=j:=by
   rw [seqIndex_of h0 h4] at h1;exact Option.some.inj h1
  exact PySem.W.ki_setAt ho h0 (by omega) (by rw [b8,←hl];exact h4) (by rw [hk];exact ⟨_,I',q⟩)
 ·have hk:(k+(its.toArray.size:Int)).toNat=j:=by
   rw [seqIndex_neg (by omega) h3] at h1
   rw [b8,←hl];exact Option.some.inj h1
  exact PySem.W.ki_setBack ho (by omega) (by rw [b8,←hl];exact h3) (by omega) (by rw [hk];exact ⟨_,I',q⟩)
theorem we(lo hi:Option Int)(n:Nat):(sliceBounds lo hi none n).1=((HT.bD n 0 lo:Nat):Int)∧(sliceBounds lo hi none n).2.1=((HT.bD n n hi:Nat):Int)∧(sliceBounds lo hi none n).2.2=1:=by
 refine ⟨?_,?_,rfl⟩
 ·cases lo with
  |none=>simp [sliceBounds,HT.bD]
  |some i=>
   simp only [sliceBounds,HT.bD,Option.getD_none,show (1:Int)>0 by decide,if_true]
   by_cases h:i<0
   ·simp only [h,if_true]<;>omega
   ·simp only [h,if_false]<;>omega
 ·cases hi with
  |none=>simp [sliceBounds,HT.bD]
  |some i=>
   simp only [sliceBounds,HT.bD,Option.getD_none,show (1:Int)>0 by decide,if_true]
   by_cases h:i<0
   ·simp only [h,if_true]<;>omega
   ·simp only [h,if_false]<;>omega
theorem uX(its:List Value)(lo hi:Option Int):slicePick its.toArray lo hi none=((its.drop (HT.bD its.length 0 lo)).take (HT.bD its.length its.length hi-HT.bD its.length 0 lo)).toArray:=by
 obtain ⟨h1,h2,h3⟩:=we lo hi its.toArray.size;unfold slicePick;rw [h1,h2,h3];simp only [sliceRange_one,pick_run,b8]<;>rfl
def UM(K:PySem.W.Frag):V→Option Int→Option Int→Hp→VK→Prop:=λx lo hi H Q=>∃a xs,x= .ref a∧cp K H a xs∧∀p,H p=none→Q (.ref p) (upd H p (.lst (rL xs lo hi)))
theorem BZ:Ct X (UM X.K):=by
 intro pins s σ H x v vl vu lo hi sl Q I rx hs pl pu h;obtain ⟨a,xs,rfl,hx,q⟩:=h;cases rx;obtain ⟨its,r,ht,hz⟩:=I.list hx;have hlen:=r.length;refine ⟨"list",_,slot_list_getitem.lookup,ht.isList.typeIs,?_⟩;refine wpAny_getItem_list_slice ht.isList hs pl pu .none (by simp) ?_ (by rw [b8]<;>omega)
 rw [uX,←hlen];refine ⟨.ref s.heap.objs.size,_,I.laid (t':=s.toks) (o:= .lst (rL xs lo hi)) (λb ob q=>Heap.get?_push_of_some _ q) (bx _) ?_,rfl,q _ (I.hok.fresh (bx _))⟩;exact ⟨kX (pb xs lo hi) hz,_,0,(r.drop (HT.bD xs.length 0 lo)).take (HT.bD xs.length xs.length hi-HT.bD xs.length 0 lo),Heap.get?_push_size _ rfl⟩
def gr:V→Bool
 | .bf=>true
 | .bl _=>true
 | .int _=>true
 | .str _=>true
 |_=>false
def ua:V→V→Bool
 | .bf, .bf=>true
 | .bl a, .bl b=>a==b
 | .bl a, .int b=>(if a then 1 else 0)==b
 | .int a, .bl b=>a==(if b then 1 else 0)
 | .int a, .int b=>a==b
 | .str a, .str b=>a==b
 |_,_=>false
theorem Km{A:Around}{s:Shared}{y x:V}{u v:Value}(ry:RelV y u)(rx:RelV x v)(fy:gr y=true)(fx:gr x=true):SeqAt.EqAt A s u v (ua y x):=by
 cases y with
 |bf=>
  cases ry;cases x with
  |bf=>cases rx;exact SeqAt.EqAt.same _
  |bl b=>cases rx;exact SeqAt.EqAt.none_bool b
  |int b=>obtain ⟨t,rfl⟩:=rx;exact SeqAt.EqAt.none_int b t
  |str b=>obtain ⟨t,rfl⟩:=rx;exact SeqAt.EqAt.none_str b t
  |_=>exact absurd (show false=true from fx) cN
 |bl a=>
  cases ry;cases x with
  |bf=>cases rx;exact SeqAt.EqAt.bool_none a
  |bl b=>cases rx;exact SeqAt.EqAt.bool_bool a b
  |int b=>obtain ⟨t,rfl⟩:=rx;exact SeqAt.EqAt.bool_int a b t
  |str b=>obtain ⟨t,rfl⟩:=rx;exact SeqAt.EqAt.bool_str a b t
  |_=>exact absurd (show false=true from fx) cN
 |int a=>
  obtain ⟨t',rfl⟩:=ry;cases x with
  |bf=>cases rx;exact SeqAt.EqAt.int_none a t'
  |bl b=>cases rx;exact SeqAt.EqAt.int_bool a t' b
  |int b=>obtain ⟨t,rfl⟩:=rx;exact SeqAt.EqAt.int_int a t' b t
  |str b=>obtain ⟨t,rfl⟩:=rx;exact SeqAt.EqAt.int_str a t' b t
  |_=>exact absurd (show false=true from fx) cN
 |str a=>
  obtain ⟨t',rfl⟩:=ry;cases x with
  |bf=>cases rx;exact SeqAt.EqAt.str_none a t'
  |bl b=>cases rx;exact SeqAt.EqAt.str_bool a t' b
  |int b=>obtain ⟨t,rfl⟩:=rx;exact SeqAt.EqAt.str_int a t' b t
  |str b=>obtain ⟨t,rfl⟩:=rx;exact SeqAt.EqAt.str_str a t' b t
  |_=>exact absurd (show false=true from fx) cN
 |_=>exact absurd (show false=true from fy) cN
def nz(x:V)(u:Value):Bool:=match u with
 | .none=>ua .bf x
 | .bool b=>ua (.bl b) x
 | .int i _=>ua (.int i) x
 | .str z _=>ua (.str z) x
 |_=>false
theorem tB{x y:V}{u:Value}(r:RelV y u)(f:gr y=true):nz x u=ua y x:=by
 cases y with
 |bf=>cases r;rfl
 |bl b=>cases r;rfl
 |int i=>obtain ⟨t,rfl⟩:=r;rfl
 |str z=>obtain ⟨t,rfl⟩:=r;rfl
 |_=>exact absurd (show false=true from f) cN
theorem lH{x:V}:∀{xs:List V}{us:List Value},Vals xs us→xs.all gr=true→us.any (nz x)=xs.any λy=>ua y x
 |_,_, .nil,_=>rfl
 |y::xs,u::us, .cons r t,f=>by
  rw [List.all_cons,vK] at f;rw [List.any_cons,List.any_cons,tB r f.1,lH t f.2]
theorem iw{A:Around}{s:Shared}{x:V}{v:Value}(rx:RelV x v)(fx:gr x=true):∀{xs:List V}{us:List Value},Vals xs us→xs.all gr=true→∀u∈us,SeqAt.EqAt A s u v (nz x u)
 |_,_, .nil,_=>λu hu=>by cases hu
 |y::xs,u::us, .cons r t,f=>λu' hu=>by
  rw [List.all_cons,vK] at f
  rcases cn.mp hu with rfl|hu
  ·rw [tB r f.1];exact Km r rx f.1 fx
  ·exact iw rx fx t f.2 u' hu
def KG(x:V)(xs:List V):Bool:=xs.any λy=>ua y x
def Pk(K:PySem.W.Frag)(neg:Bool):R2:=λx y H Q=>∃p xs,y= .ref p∧(cp K H p xs∨fR K H p xs)∧gr x=true∧xs.all gr=true∧Q (.bl (if neg then !KG x xs else KG x xs)) H
theorem DK:OpR X (compareOp .In) (Pk X.K false):=by
 intro pins s σ H x y v u Q I rx ry h;obtain ⟨p,xs,rfl,hq,fx,fs,q⟩:=h;cases ry
 rcases hq with hq|hq
 ·obtain ⟨its,r,pl,hz⟩:=I.list hq
  refine SeqAt.in_listAt (nz x) pl.isList (λw hw=>iw rx fx r fs w (by simpa using hw)) ⟨.bl _,H,I,rfl,?_⟩
  rw [show its.toArray.any (nz x)=its.any (nz x) by simp,lH r fs]
  exact q
 ·obtain ⟨its,r,pl,hz⟩:=I.tuple hq
  refine SeqAt.in_tupleAt (nz x) pl (λw hw=>iw rx fx r fs w (by simpa using hw)) ⟨.bl _,H,I,rfl,?_⟩
  rw [show its.toArray.any (nz x)=its.any (nz x) by simp,lH r fs]
  exact q
theorem wc:OpR X (compareOp .NotIn) (Pk X.K true):=by
 intro pins s σ H x y v u Q I rx ry h;obtain ⟨p,xs,rfl,hq,fx,fs,q⟩:=h;cases ry
 rcases hq with hq|hq
 ·obtain ⟨its,r,pl,hz⟩:=I.list hq
  refine SeqAt.notIn_listAt (nz x) pl.isList (λw hw=>iw rx fx r fs w (by simpa using hw)) ⟨.bl _,H,I,rfl,?_⟩
  rw [show its.toArray.any (nz x)=its.any (nz x) by simp,lH r fs]
  exact q
 ·obtain ⟨its,r,pl,hz⟩:=I.tuple hq
  refine SeqAt.notIn_tupleAt (nz x) pl (λw hw=>iw rx fx r fs w (by simpa using hw)) ⟨.bl _,H,I,rfl,?_⟩
  rw [show its.toArray.any (nz x)=its.any (nz x) by simp,lH r fs]
  exact q
theorem vQ:dU X (.builtin "len") (λxs H Q=>∃p ys,xs= [.ref p]∧(cp X.K H p ys∨fR X.K H p ys)∧Q (.int ys.length) H):=by
 intro pins s σ H xs us Q I r h;obtain ⟨p,ys,rfl,hq,q⟩:=h;obtain ⟨u,rfl,rx⟩:=vals1 r;cases rx;have hn:=ke
 rcases hq with hq|hq
 ·obtain ⟨its,r',pl,hz⟩:=I.list hq
  have hlen:=r'.length;exact Calls.call_len_list pl.isList (by simp only [b8]<;>omega) ⟨.int ys.length,H,I.tok _,⟨s.toks+1,by rw [b8,hlen]⟩,q⟩
 ·obtain ⟨its,r',pl,hz⟩:=I.tuple hq
  have hlen:=r'.length;exact len_tuple pl (by simp only [b8]<;>omega) ⟨.int ys.length,H,I.tok _,⟨s.toks+1,by rw [b8,hlen]⟩,q⟩
theorem vS:dU X (.type "list") (λxs H Q=>∃p ys,xs= [.ref p]∧(cp X.K H p ys∨fR X.K H p ys)∧∀l,H l=none→Q (.ref l) (upd H l (.lst ys))):=by
 intro pins s σ H xs us Q I r h;obtain ⟨p,ys,rfl,hq,q⟩:=h;obtain ⟨u,rfl,rx⟩:=vals1 r;cases rx
 have fin:∀(its:List Value),Vals ys its→ys.length≤sizeLine→∀(h':Heap)(c':Nat),(∀b o',s.heap.get? b=some o'→h'.get? b=some o')→
   h'.get? s.heap.objs.size=some {cls:= .type "list",dict:=none,data:= .seq its.toArray c',slots:= #[]}→EP X pins σ Q (.ref s.heap.objs.size) {s with heap:=h'}:=λits r' hz h' c' kp e=>
  ⟨.ref s.heap.objs.size,_,I.laid (t':=s.toks) kp (bx _) (show cV X.prog X.w _ h' _ (.lst ys) from ⟨hz,its,c',r',e⟩),rfl,q _ (I.hok.fresh (bx _))⟩
 rcases hq with hq|hq
 ·obtain ⟨its,r',pl,hz⟩:=I.list hq
  have hlen:=r'.length;obtain ⟨o,ho,hc,n,hd⟩:=pl.isList;exact call_list_seq p (.inl rfl) ho hc hd (λh' c' kp e=>fin its r' hz h' c' kp e) (by simp only [b8]<;>omega)
 ·obtain ⟨its,r',pl,hz⟩:=I.tuple hq
  have hlen:=r'.length;obtain ⟨o,ho,hc,n,hd⟩:=pl;exact call_list_seq p (.inr rfl) ho hc hd (λh' c' kp e=>fin its r' hz h' c' kp e) (by simp only [b8]<;>omega)
def LR(K:PySem.W.Frag)(T:String)(x:V)(H:Hp):Prop:=match x with
 | .str _=>T="str"
 | .int _=>T="int"
 | .ref p=>(T="list"∧∃xs,cp K H p xs)∨(T="tuple"∧∃o,K.lookup p=some o∧o.cls= .type "tuple"∧o.dict=none)∨
   (T="dict"∧((∃dN,H p=some (.dK dN))∨∃dN,H p=some (.dT dN)))∨(T="set"∧∃S n,H p=some (.set S n))
 |_=>False
theorem Fq{pins:List (Addr×Obj)}{σ:St}{H:Hp}{s:Shared}{T:String}{x:V}{v:Value}(I:Inv X pins σ H s)(r:RelV x v)(ty:LR X.K T x H):
  s.TypeIs v T∧∀a,v= .ref a→∃ob,s.heap.get? a=some ob∧ob.dict=none:=by
 cases x with
 |str z=>
  obtain ⟨t,rfl⟩:=r;cases (show T="str" from ty);exact ⟨typeIs_str s z t,λ_ e=>nomatch e⟩
 |int i=>
  obtain ⟨t,rfl⟩:=r;cases (show T="int" from ty);exact ⟨typeIs_int s i t,λ_ e=>nomatch e⟩
 |ref p=>
  cases r
  rcases ty with ⟨rfl,xs,hq⟩ | ⟨rfl,o,hk,hc,hd⟩ | ⟨rfl,hk⟩ | ⟨rfl,S,n,hk⟩
  ·obtain ⟨its,_,pl,_⟩:=I.list hq
   refine ⟨pl.isList.typeIs,λa e=>?_⟩;cases e;obtain ⟨o,n,e,c,hd,_⟩:=pl;exact ⟨o,e,hd⟩
  ·refine ⟨⟨o,I.gT p o hk,hc⟩,λa e=>?_⟩
   cases e;exact ⟨o,I.gT _ o hk,hd⟩
  ·have z:∃o,s.heap.get? p=some o∧o.ExactDict:=by
    rcases hk with ⟨dN,hk⟩ | ⟨dN,hk⟩
    ·obtain ⟨_,_,_,_,o,_,_,e,ex,_⟩:=I.hok p _ hk
     exact ⟨o,e,ex⟩
    ·obtain ⟨_,_,_,_,o,_,_,e,ex,_⟩:=I.hok p _ hk
     exact ⟨o,e,ex⟩
   obtain ⟨o,e,ex⟩:=z;refine ⟨⟨o,e,ex.1⟩,λa e2=>?_⟩;cases e2;exact ⟨o,e,ex.2.1⟩
  ·obtain ⟨o,_,_,_,e,ex,_⟩:=I.hok p _ hk
   refine ⟨⟨o,e,ex.1⟩,λa e2=>?_⟩;cases e2;exact ⟨o,e,ex.2.1⟩
 |_=>exact False.elim ty
def Vm(K:PySem.W.Frag)(T:String)(r:V→List V→Hp→VK→Prop)(to:TE):TE:=λσ H Q=>to σ H λx H1=>LR K T x H1∧r x [] H1 Q
def tBM(K:PySem.W.Frag)(T:String)(r:V→List V→Hp→VK→Prop)(to:TE)(t:TA):TE:=λσ H Q=>to σ H λx H1=>LR K T x H1∧t σ H1 λxs H2=>r x xs H2 Q
variable {o e:Expr} {es:List Expr} {to:TE} {t:TA} {name:Str} {apos aR:Pos} {T id:String} {r:V→List V→Hp→VK→Prop}
theorem Lj(pa:PlainAttrs T)(slot:Slot T name id)(Ie:typeOf (.builtin id)=pure (.type "method_descriptor"))(hm:GV X id r)(ho:PE X o to)
  (dE:attributeBase o name X.env (eval o X.env)=eval o X.env:=by rfl) (cz:(apos.endLine==aR.line)=true:=by rfl):PE X (.Call (.Attribute o name apos) [] [] aR) (Vm X.K T r to):=by
 intro pins s σ H Q I h;refine wpAny_Call_method0_late dE cz (thn (ho pins s σ H _ I h) λv s1 ⟨x,H1,I1,r1,ty,q1⟩=>?_);obtain ⟨h1,h2⟩:=Fq I1 r1 ty;exact ⟨T,id,pa,slot,Ie,h1,h2,Calls.callWith_builtin rfl (PySem.evalArgs_none (hm pins s1 σ H1 x [] v [] Q I1 r1 .nil q1))⟩
theorem uN(pa:PlainAttrs T)(slot:Slot T name id)(Ie:typeOf (.builtin id)=pure (.type "method_descriptor"))(hm:GV X id r)(ho:PE X o to)(ha:PA X (e::es) t)
  (dE:attributeBase o name X.env (eval o X.env)=eval o X.env:=by rfl)
  (iH:((backTo aR (starEach (e::es) X.env)).all (λx=>!x.1)&&(backToKw aR (keywordEach [] X.env)).all (λx=>x.1.isSome)
   &&decide ((e::es).length+([]:List Keyword).length+(if ([]:List Keyword).isEmpty then 0 else 1)<30))=true:=by rfl)
  (cz:(apos.endLine==aR.line)=true:=by rfl) (hs:starEach (e::es) X.env=(false,eval e X.env)::starEach es X.env:=by rfl) (dF:(backTo aR (starEach es X.env)).any (·.1)=false:=by rfl):
  PE X (.Call (.Attribute o name apos) (e::es) [] aR) (tBM X.K T r to t):=by
 intro pins s σ H Q I h;refine wpAny_Call_method_late dE iH cz rfl (thn (ho pins s σ H _ I h) λv s1 ⟨x,H1,I1,r1,ty,q1⟩=>?_);obtain ⟨h1,h2⟩:=Fq I1 r1 ty;refine ⟨T,id,pa,slot,Ie,h1,h2,?_⟩;have hA:=ha aR pins s1 σ H1 _ I1 q1;rw [hs] at hA ⊢;refine Calls.callWith_builtin (by show (false|| (backTo aR (starEach es X.env)).any (·.1))=false;rw [dF]<;>rfl) (Calls.evalArgs_plain ?_)
 exact thn hA λus s2 ⟨vs,H2,I2,r2,q2⟩=>hm pins s2 σ H2 x vs v us Q I2 r1 r2 q2
end
def GU(X:Cx)(id:String)(r:V→List V→Hp→VK→Prop):Prop:=
 ∀(pins:List (Addr×Obj))(s:Shared)(σ:St)(H:Hp)(x:V)(xs:List V)(v:Value)(us:List Value)(Q:VK),Inv X pins σ H s→RelV x v→Vals xs us→r x xs H Q→
  wpAny (model X.prog X.w) X.A (call (.builtin id) (v::us)) (EP X pins σ Q) X.xe s
theorem Vals.one:∀{x:V}{us:List Value},Vals [x] us→∃u,us= [u]∧RelV x u
 |_,_, .cons r .nil=>⟨_,rfl,r⟩
theorem Vals.two:∀{x y:V}{us:List Value},Vals [x,y] us→∃u v,us= [u,v]∧RelV x u∧RelV y v
 |_,_,_, .cons r (.cons q .nil)=>⟨_,_,rfl,r,q⟩
theorem Vals.zero:∀{us:List Value},Vals [] us→us= []
 |_, .nil=>rfl
theorem Vals.dropLast{xs:List V}{us:List Value}(h:Vals xs us):Vals xs.dropLast us.dropLast:=by
 induction h with
 |nil=>exact .nil
 |cons r t ih=>
  cases t with
  |nil=>exact .nil
  |cons q t'=>exact .cons r ih
theorem Vals.reverse{xs:List V}{us:List Value}(h:Vals xs us):Vals xs.reverse us.reverse:=by
 induction h with
 |nil=>exact .nil
 |cons r t ih=>rw [vH,vH];exact Vals.append ih (.cons r .nil)
theorem Vals.rep{xs:List V}{us:List Value}(h:Vals xs us):∀k:Nat,Vals (List.replicate k xs).flatten (List.replicate k us).flatten
 |0=> .nil
 |k+1=>by
  rw [vE,vE,yC,yC];exact Vals.append h (Vals.rep h k)
theorem Ba{α:Type}(l:List α):l.eraseIdx (l.length-1)=l.dropLast:=by
 induction l with
 |nil=>rfl
 |cons a r ih=>
  cases r with
  |nil=>rfl
  |cons b r=>
   have e:(a::b::r).length-1=((b::r).length-1)+1:=by
    have h1:(a::b::r).length=r.length+2:=rfl;have h2:(b::r).length=r.length+1:=rfl;omega
   rw [e,List.eraseIdx_cons_succ,ih]
   all_goals rfl
theorem foldl_rep(its:List Value):∀(k:Nat)(acc:List Value),
  List.foldl (λx1 x2=>x1++x2) acc.toArray (List.replicate k its.toArray)=(acc++(List.replicate k its).flatten).toArray
 |0,acc=>by simp
 |k+1,acc=>by
  have e:acc.toArray++its.toArray=(acc++its).toArray:=by simp
  have e2:(acc++its)++(List.replicate k its).flatten=acc++(List.replicate (k+1) its).flatten:=by
   rw [vE,yC,kR]
  rw [←e2,←foldl_rep its k (acc++its),←e,vE,List.foldl_cons]
section
variable {X:Cx} {pins:List (Addr×Obj)} {σ:St} {H:Hp} {s:Shared} {l b:Addr} {xs ys zs:List V}
theorem Inv.ET{its its':List Value}{n:Nat}{f:Array Value→Array Value}{t':Nat}(I:Inv X pins σ H s)(hH:H l=some (.lst xs))
  (e:s.heap.get? l=some {cls:= .type "list",data:= .seq its.toArray n}) (hf:f its.toArray=its'.toArray) (hv:Vals ys its') (hz:ys.length≤sizeLine):
  Inv X pins σ (upd H l (.lst ys)) {s with heap:=s.heap.update l (Obj.mapSeq f),toks:=t'}:=by
 have q:=PySem.IsL.update e f;rw [hf] at q;refine I.write (x:=l) (e:=l) (by rw [hH];exact trivial) (.inl rfl) (λb' u hb hu=>(Heap.get?_update_other s.heap (Obj.mapSeq f) (Ne.symm hb)).trans hu) ⟨_,q⟩ ?_
 exact ⟨hz,its',_,hv,q⟩
theorem Inv.ES{its:List Value}{t':Nat}(I:Inv X pins σ H s)(hv:Vals ys its)(hz:ys.length≤sizeLine):
  Inv X pins σ (upd H s.heap.objs.size (.lst ys)) {s with heap:=s.heap.push {cls:= .type "list",data:= .seq its.toArray},toks:=t'}:=
 I.laid (λ_ _ q=>Heap.get?_push_of_some _ q) (bx _) ⟨hz,its,0,hv,Heap.get?_push_size _ rfl⟩
theorem Inv.fresh(I:Inv X pins σ H s):H s.heap.objs.size=none:=I.hok.fresh (bx _)
theorem Inv.nQ(I:Inv X pins σ H s)(hH:H l=some (.lst xs)):xs.length≤sizeLine∧∃(its:List Value)(n:Nat),Vals xs its∧xs.length=its.length∧s.heap.get? l=some {cls:= .type "list",data:= .seq its.toArray n}:=by
 obtain ⟨z,its,n,r,e⟩:=I.hok l _ hH;exact ⟨z,its,n,r,r.length,e⟩
theorem xa{n:Nat}(h:n≤sizeLine):Builtin.List.listTooLong n=false:=by
 unfold Builtin.List.listTooLong;exact decide_eq_false (by omega)
end
section
variable {X:Cx}
def Js:V→List V→Hp→VK→Prop:=λx vs H Q=>∃l xs y,x= .ref l∧vs= [y]∧H l=some (.lst xs)∧xs.length<sizeLine∧Q .bf (upd H l (.lst (xs++ [y])))
theorem oN:GU X "list.append" Js:=by
 intro pins s σ H x vs v us Q I rx rv h;obtain ⟨l,xs,y,rfl,rfl,hH,hz,q⟩:=h;cases rx;obtain ⟨u,rfl,ru⟩:=rv.one;obtain ⟨z,its,n,r,hl,e⟩:=I.nQ hH;refine call_meets F.slot_list_append ⟨_,e,rfl⟩ F.entry_list_append (F.args_list_append_2 _ _) (PySem.list_append l its.toArray n u (by rw [b8];omega)) ⟨e,?_⟩
 refine ⟨.bf,_,I.ET (its':=its++ [u]) hH e (by simp) (r.append (.cons ru .nil)) ?_,rfl,q⟩
 rw [b9,vC];omega
def Jt:V→List V→Hp→VK→Prop:=λx vs H Q=>∃l b xs zs,x= .ref l∧vs= [.ref b]∧H l=some (.lst xs)∧H b=some (.lst zs)∧xs.length+zs.length≤sizeLine∧Q .bf (upd H l (.lst (xs++zs)))
theorem Dr:GU X "list.extend" Jt:=by
 intro pins s σ H x vs v us Q I rx rv h;obtain ⟨l,b,xs,zs,rfl,rfl,hH,hB,hz,q⟩:=h;cases rx;obtain ⟨u,rfl,ru⟩:=rv.one;cases ru;obtain ⟨z,its,n,r,hl,e⟩:=I.nQ hH;obtain ⟨z2,rR,n2,r2,XI,e2⟩:=I.nQ hB;have eD:its.toArray.size+rR.toArray.size≤sizeLine:=by rw [b8,b8];omega
 have CZ:¬(!its.toArray.isEmpty&&Builtin.List.listTooLong (its.toArray.size+rR.toArray.size))=true:=by
  rw [xa eD,Bool.and_false];exact cN
 refine call_meets F.slot_list_extend ⟨_,e,rfl⟩ F.entry_list_extend (F.args_list_extend_2 _ _)
  (AutoSeq1.list_extend_list_list_0 l its.toArray n b rR.toArray n2 CZ (by rw [b8];omega) (by omega)) ⟨e,e2,?_⟩
 refine ⟨.bf,_,I.ET (its':=its++rR) hH e (by simp) (r.append r2) ?_,rfl,q⟩
 rw [b9];omega
def UK:V→List V→Hp→VK→Prop:=λx vs H Q=>∃l xs y,x= .ref l∧vs= []∧H l=some (.lst xs)∧xs[xs.length-1]? =some y∧Q y (upd H l (.lst xs.dropLast))
theorem K2:GU X "list.pop" UK:=by
 intro pins s σ H x vs v us Q I rx rv h;obtain ⟨l,xs,y,rfl,rfl,hH,hy,q⟩:=h;cases rx;have X4:=rv.zero;subst X4;obtain ⟨z,its,n,r,hl,e⟩:=I.nQ hH;obtain ⟨u,hu,ru⟩:=r.get hy
 have KC:its.toArray[its.toArray.size-1]? =some u:=by
  show its.toArray[its.length-1]? =some u;rw [←f6,←hl];exact hu
 refine call_meets F.slot_list_pop ⟨_,e,rfl⟩ F.entry_list_pop (F.args_list_pop_1 _) (MeetsSeq.list_pop_last l its.toArray n u KC (by rw [b8];omega)) ⟨e,?_⟩
 refine ⟨y,_,I.ET (its':=its.dropLast) hH e ?_ r.dropLast ?_,ru,q⟩
 ·show its.toArray.eraseIdxIfInBounds (its.toArray.size-1)=its.dropLast.toArray
  rw [b8,List.eraseIdxIfInBounds_toArray,Ba]
 ·rw [List.length_dropLast]
  omega
def UE:R2:=λx y H Q=>∃l b xs zs,x= .ref l∧y= .ref b∧H l=some (.lst xs)∧H b=some (.lst zs)∧xs.length+zs.length≤sizeLine∧∀p,H p=none→Q (.ref p) (upd H p (.lst (xs++zs)))
theorem zE:OpR X (binaryOp .Add) UE:=by
 intro pins s σ H x y v u Q I rx ry h;obtain ⟨l,b,xs,zs,rfl,rfl,hH,hB,hz,q⟩:=h;cases rx;cases ry;obtain ⟨z,its,n,r,hl,e⟩:=I.nQ hH;obtain ⟨z2,rR,n2,r2,XI,e2⟩:=I.nQ hB;refine PySem.P.add_list e e2 ?_ (by rw [b8,b8];omega)
 have ea:its.toArray++rR.toArray=(its++rR).toArray:=by simp
 rw [ea];exact ⟨.ref _,_,I.ES (t':=s.toks) (r.append r2) (by rw [b9];omega),rfl,q _ I.fresh⟩
def UL:R2:=λx y H Q=>∃l k xs,x= .ref l∧y= .int k∧H l=some (.lst xs)∧-(2^63)≤k∧k<2^63∧xs.length*k.toNat≤sizeLine∧
 ∀p,H p=none→Q (.ref p) (upd H p (.lst (List.replicate k.toNat xs).flatten))
theorem len_rep{α:Type}(xs:List α)(k:Nat):(List.replicate k xs).flatten.length=k*xs.length:=by
 induction k with
 |zero=>simp
 |succ k ih=>rw [vE,yC,b9,ih,Nat.succ_mul,Nat.add_comm]
theorem Lg:OpR X (binaryOp .Mult) UL:=by
 intro pins s σ H x y v u Q I rx ry h;obtain ⟨l,k,xs,rfl,rfl,hH,h1,h2,hz,q⟩:=h;cases rx;obtain ⟨t,rfl⟩:=ry;obtain ⟨z,its,n,r,hl,e⟩:=I.nQ hH;have hlen:its.toArray.size*k.toNat≤sizeLine:=by rw [b8,←hl];exact hz
 have RP:¬its.toArray.size*k.toNat>(2^63-1) / 8:=by
  have:(sizeLine:Nat)≤(2^63-1) / 8:=by decide
  omega
 have HW:¬(!Builtin.List.listFitsIndex k)=true:=by
  rw [fitsIndex_both h1 h2];exact cN
 have CZ:¬Builtin.List.listTooLong (its.toArray.size*k.toNat)=true:=by
  rw [xa hlen];exact cN
 have Sa:List.foldl (λx1 x2=>x1++x2) #[] (List.replicate (if its.toArray.isEmpty=true then 0 else k.toNat) its.toArray)=(List.replicate k.toNat its).flatten.toArray:=by
  have f0:∀m:Nat,List.foldl (λx1 x2=>x1++x2) #[] (List.replicate m its.toArray)=(List.replicate m its).flatten.toArray:=λm=>by
   have:=foldl_rep its m []
   rw [mN] at this;exact this
  rw [f0];cases its with
  |nil=>simp
  |cons a r'=>rw [if_neg (by simp)]
 refine wpAny_binaryOp_repeat_ref (T:="list") (U:="int") (by decide) ⟨_,e,rfl⟩ (λs'=>typeIs_int s' k t) noFill_list_mul F.fills_int_mul F.slot_int_rmul repeat_list F.slot_int_index.lookup
  (call_meets F.slot_int_rmul (typeIs_int s k t) F.entry_int_rmul (F.args_int_rmul_2 _ _) (int___rmul___int_list k t l its.toArray n)
   ⟨e,rfl,⟨_,e,rfl⟩,call_meets F.slot_list_mul ⟨_,e,rfl⟩ F.entry_list_mul (F.args_list_mul_2 _ _) (AutoListH.list___mul___list_int_3 l its.toArray n k t HW RP CZ) ⟨e,?_⟩⟩)
 rw [Sa];exact ⟨.ref _,_,I.ES (t':=s.toks) (r.rep k.toNat) (by rw [len_rep,Nat.mul_comm];exact hz),rfl,q _ I.fresh⟩
end
section
variable {prog:Program} {w:World} {A:Around} {E:Value→Shared→Prop} {s:Shared}
end
section
variable {X:Cx}
end
end L2
namespace PR
open PySem PySem.W PySem.Calls PyProof.Rows
theorem qN{P:Params}{h:Heap}:∀(ns:List Int)(vs:List Value),WellAll P h vs (ns.map WData.int)→IntsAre vs ns:=by
 intro ns
 induction ns with
 |nil=>
  intro vs w;rw [List.map_nil] at w;cases w;exact .nil
 |cons n ns ih=>
  intro vs w;rw [iV] at w;cases w with
  |cons a b=>
   cases a;exact .cons _ _ (ih _ b)
theorem D6{l:OpenLaw}{n:Nat}(hn:l.most=some n){P:Params}{h:Heap}{args:List WData}{vals:List Value}
  (EN:l.row.toRowW.claim.pre args=true) (OI:WellAll P h vals args):
  ∃a vs ns,vals= [Value.ref a]∧args= [WData.list (ns.map WData.int)]∧h.get? a=some {cls:= .type "list",data:= .seq vs.toArray}∧IntsAre vs ns∧ns.length≤n:=by
 have X1:WShape.hasAll [] args [.list .int]=true:=(pre_splitW EN).1;have hc:l.pre.holds [] {args:=args}=true:=(pre_splitW EN).2;obtain ⟨d,r,rfl,h1,h2⟩:=hasAllW_cons X1;obtain rfl:=hasAllW_nil h2;obtain ⟨xs,rfl,h3⟩:=hasW_list h1;obtain ⟨ns,rfl⟩:=items_int h3
 have hlen:ns.length≤n:=by
  unfold OpenLaw.pre at hc
  have h4:(WTm.not (.lt (.lit (.int (n:Int))) (.len (.arg 0)))).holds [] {args:= [.list (ns.map .int)]}=true:=by
   have h4:=(holds_andW hc).1;rw [hn] at h4;exact h4
  have h5:=condW_of h4 (w_not (w_lt w_lit (w_len_list (w_arg rfl))));rw [aK] at h5;refine n9 λq=>?_;have q':(n:Int)<((ns.length:Nat):Int):=by omega
  first
   | (rw [decide_eq_true q'] at h5;exact absurd h5 (by decide))
   | (simp at h5;omega)
 cases OI with
 |cons w1 w2=>
  cases w2;cases w1 with
  |list ho ue=>exact ⟨_,_,ns,rfl,rfl,ho,qN ns _ ue,hlen⟩
theorem DU(l:OpenLaw)(args:List WData):l.row.toRowW.claim.post args (.bool true) args=true:=
 postW_of (r:=l.row.toRowW) (X:=(true==true))
  (show WShape.has [] (.bool true) .bool=true by first|rfl|decide|simp [WShape.has,WShape.arms,WShape.armsAll])
  (show (WTm.eq .res (.lit (.bool true))).value [] {args:=args,res:=some (.bool true),after:=args}=some (.bool (true==true)) from w_eq_bool (w_res rfl) w_lit) rfl
theorem yJ{l:OpenLaw}{n:Nat}{q:Program}{loose:List Str}{XP:(Str→Option Value)→Heap→Prop}{YP:World→Heap→Prop}{d:DefRec}
  (hn:l.most=some n) (CV:d.params.defaults= [])
  (call:∀(w:World)(s₀ s₁:Shared)(mg mb:Str→Option Value)(fa:Addr)(o:Obj)(pm cd doc:Value)(a:Addr)(vs:List Value)(ns:List Int),
   Ground q loose [] XP w s₀ mg mb s₁.heap→YP w s₁.heap→
   s₁.heap.get? fa=some o→o.data= .func (docDef d.name d.params d.body d.scope pm cd doc)→s₁.heap.CodeRec cd d.name→mg d.name=some (.ref fa)→
   s₁.heap.get? a=some {cls:= .type "list",data:= .seq vs.toArray}→IntsAre vs ns→ns.length≤n→s₁.gens= #[]→
   codeAny (model l.prog w) callerA (.call (.ref fa) ⟨[.ref a],[]⟩) (λr s'=>r= .ok (.ret (.bool true))∧OldK s₁.heap s'.heap∧s'.os=s₁.os∧AllBare s'.gens) s₁):
  WalkO q loose XP YP l.row.toRowW d [] (λf vs=>PySem.call f vs):=by
 intro w s₀ s₁ mg mb G Y fa o pm cd doc dV kV ho hd fT hD C0 hg args vals as EN aaf hrd OI Bm;obtain rfl:dV= .none:=Dflts.none hD CV;obtain rfl:kV= .none:=Dflts.noKw hD;obtain ⟨a,vs,ns,rfl,rfl,Ia,hints,hlen⟩:=D6 hn EN OI;refine enter_call (codeAny_mono (call w s₀ s₁ mg mb fa o pm cd doc a vs ns G Y ho (fd_plain hd) fT C0 Ia hints hlen hg) λr s' hq=>?_);obtain ⟨rfl,h2,h3,h4⟩:=hq;exact ⟨.inl ⟨.bool true, .bool true,[],rfl,λ_=>rfl, .bool true,DU l _,λ_=>⟨List.Pairwise.nil,λ_ hm=>(nomatch hm)⟩⟩,h2,h3,h4⟩
section
variable {prog:Program} {w:World} {A:Around} {E:Value→Shared→Prop} {s:Shared} {K:Frag}
end
end PR
namespace L2
open PySem PySem.Spec PyProof.Rows
theorem kE:∀{vs:List Value}{ns:List Int},IntsAre vs ns→Vals (ns.map V.int) vs
 |_,_, .nil=> .nil
 |_,_, .cons n t h=> .cons ⟨t,rfl⟩ (kE h)
def GW(H:Hp):Prop:=∀b,H b=none∨∃o xs,H b=some (.pG o (.lst xs))
theorem F2{P:Program}{w:World}{K:PySem.W.Frag}{mg mb:Str→Option Value}{CX:qD}{k:Nat}{fa a:Addr}{fd:FuncData}{x:Str}{sp:Sp}{s₁:Shared}{vs:List Value}{ns:List Int}
  (KX:K.In s₁.heap) (zf:s₁.heap.Ns mainGlobals mg) (hb:s₁.heap.Ns builtinsNs mb) (Xr:∀x:Str,x≠"__name__"→mb x=bootBuiltins x) (R6:s₁.heap.NoLimit) (hg:s₁.gens= #[])
  (ha:s₁.heap.get? a=some {cls:= .type "list",data:= .seq vs.toArray}) (hi:IntsAre vs ns) (hl:ns.length≤sizeLine) (hr:cC k callerA)
  (F:∀base:Heap,K.In base→base.Ns mainGlobals mg→FnOk P w K mg base CX k fa fd [x] sp) (Oi:∀(s:Shared)(u:Value),BindsTo s fd ⟨[u],[]⟩ [(x,u)])
  (Bq:∀H:Hp,GW H→cp K H a (ns.map V.int)→sp [.ref a] H (λv _=>v= .bl true) λ_ _ _=>False)
  (N6:∀H e s',CX [] H s₁ (λ_ _ _=>False) e s'→False):
  codeAny (model P w) callerA (.call (.ref fa) ⟨[.ref a],[]⟩) (λr s'=>r= .ok (.ret (.bool true))∧OldK s₁.heap s'.heap∧s'.os=s₁.os∧AllBare s'.gens) s₁:=by
 have rv:=kE hi;have Td:=hi.length
 have core:∀H:Hp,GW H→cp K H a (ns.map V.int)→hV P w H s₁.heap→(∀b,H b≠none→b=a)→(H a≠none→K.lookup a=none)→
   codeAny (model P w) callerA (.call (.ref fa) ⟨[.ref a],[]⟩) (λr s'=>r= .ok (.ret (.bool true))∧OldK s₁.heap s'.heap∧s'.os=s₁.os∧AllBare s'.gens) s₁:=by
  intro H hO hS hok hA hK;have AQ:∀{b:Addr}{o:Obj},s₁.heap.get? b=some o→H b=none→(pK s₁.heap H).get? b=some o:=λe n=>FT e n
  have IG:∀{b:Addr}{o:Obj}{es:Array DictEntry}{ep:Nat},s₁.heap.get? b=some o→o.data= .dict es ep→H b=none:=λ {b o es ep} e d=>by
   cases q:H b with
   |none=>rfl
   |some u=>
    have e':b=a:=hA b (by rw [q];simp)
    subst e';rw [ha] at e;cases e;have d':Data.seq vs.toArray _=Data.dict es ep:=d;cases d'
  have K6:∀{b:Addr}{m:Str→Option Value},s₁.heap.Ns b m→(pK s₁.heap H).Ns b m:=λ {b m} ⟨o,es,ep,e,d,r⟩=>⟨o,es,ep,AQ e (IG e d),d,r⟩
  have RL:K.In (pK s₁.heap H):=λb o e=>AQ (KX b o e) (by
   cases q:H b with
   |none=>rfl
   |some u=>
    have e':b=a:=hA b (by rw [q];simp)
    subst e';rw [hK (by rw [q];simp)] at e;cases e)
  have hM:Mod K mg (pK s₁.heap H):=⟨RL,K6 zf,⟨mb,K6 hb,Xr⟩,let ⟨mc,h1,h2⟩:=R6;⟨mc,K6 h1,h2⟩⟩;have e0:Env0 P w K mg (pK s₁.heap H) callerA [] s₁ H:=⟨rfl,hM,λb o e=>IL e,Nat.le_of_eq (CY _ _),trivial,λb hb=>absurd (show b∈([]:List Addr) from hb) (by simp),hok, .of_eq hg⟩
  refine codeAny_mono ((F _ RL (K6 zf)).run callerA [] s₁ H ⟨[.ref a],[]⟩ [.ref a] [.ref a] _ _ hr e0 (Oi s₁ (.ref a)) (.cons rfl .nil) (Bq H hO hS)) λr s' h=>?_;cases r with
  |error e=>exact (N6 H e s' h).elim
  |ok fl=>
   cases fl with
   |next=>exact False.elim h
   |brk=>exact False.elim h
   |cont=>exact False.elim h
   |ret u=>
    obtain ⟨v,H',os,bare,un,Se,r',q⟩:=h;have q':v= .bl true:=q;subst q';obtain rfl:u=Value.bool true:=r';refine ⟨rfl,OldK.of_keep λb o e=>?_,os,bare⟩;cases q:H b with
    |none=>exact un.keep b o e q (by intro z;exact absurd (show b∈([]:List Addr) from z) (by simp)) (by simp)
    |some u=>
     rcases hO b with z| ⟨ob,xs,z⟩
     ·rw [q] at z;cases z
     ·have z2:=un.frzs b ob _ z
      obtain ⟨e1,_⟩:=hok b _ z;obtain ⟨e2,_⟩:=Se b _ z2;rw [e] at e1;cases e1;exact e2
 cases hk:K.lookup a with
 |some o=>
  have e:=KX a o hk;rw [ha] at e;cases e;refine core (λ_=>none) (λ_=> .inl rfl) (.inr ⟨_,vs.toArray,_,hk,rfl,rfl,rfl,by rw [b8,Td];exact hl,by simpa using rv⟩) (λb u z=>by have z':(none:Option HO)=some u:=z;cases z') (λb z=>absurd rfl z) λz=>absurd rfl z
 |none=>
  refine core (λb=>if b=a then some (.pG {cls:= .type "list",data:= .seq vs.toArray} (.lst (ns.map V.int))) else none) (λb=>?_) (.inl (.inr ⟨{cls:= .type "list",data:= .seq vs.toArray},if_pos rfl⟩)) (λb u z=>?_) (λb z=>?_) λ_=>hk
  ·by_cases hb:b=a
   ·exact .inr ⟨_,_,if_pos hb⟩
   ·exact .inl (if_neg hb)
  ·by_cases hb:b=a
   ·have z':=(if_pos hb).symm.trans z
    cases z';subst hb;exact ⟨ha,by rw [aK];exact hl,vs,_,rv,ha⟩
   ·have z':=(if_neg hb).symm.trans z
    cases z'
  ·by_cases hb:b=a
   ·exact hb
   ·exact absurd (if_neg hb) z
theorem JV{l:PySem.W.OpenLaw}{n k:Nat}{q:Program}{loose:List Str}{XP:(Str→Option Value)→Heap→Prop}{YP:World→Heap→Prop}{d:DefRec}{K:Params→PySem.W.Frag}{CX:World→qD}{sp:World→Sp}{x:Str}
  (hn:l.most=some n) (vZ:n≤sizeLine) (CV:d.params.defaults= []) (hr:cC k callerA)
  (hY:∀(w:World)(h:Heap),YP w h→(K w.params).In h)
  (F:∀(w:World)(mg:Str→Option Value)(fa:Addr)(h:Heap),(K w.params).In h→h.Ns mainGlobals mg→mg d.name=some (.ref fa)→
   ∃fd:FuncData,(∀(s:Shared)(u:Value),BindsTo s fd ⟨[u],[]⟩ [(x,u)])∧
    ∀base:Heap,(K w.params).In base→base.Ns mainGlobals mg→FnOk l.prog w (K w.params) mg base (CX w) k fa fd [x] (sp w))
  (Bq:∀(w:World)(H:Hp)(a:Addr)(ns:List Int),ns.length≤n→GW H→cp (K w.params) H a (ns.map V.int)→sp w [.ref a] H (λv _=>v= .bl true) λ_ _ _=>False)
  (N6:∀(w:World)(H:Hp)(s:Shared)(e:Value)(s':Shared),CX w [] H s (λ_ _ _=>False) e s'→False):
  PySem.W.WalkO q loose XP YP l.row.toRowW d [] (λf vs=>PySem.call f vs):=by
 refine PR.yJ hn CV λw s₀ s₁ mg mb fa o pm cd doc a vs ns G Y ho hd fT C0 Ia hints hlen hg=>?_;have KX:=hY w _ Y;obtain ⟨fd,hb,hF⟩:=F w mg fa _ KX G.T.g C0;exact F2 KX G.T.g G.T.b G.T.builtins G.T.nolimit hg Ia hints (kX hlen vZ) hr hF hb (λH hO hS=>Bq w H a ns hlen hO hS) λH e s'=>N6 w H s₁ e s'
def inClass(s:Stmt)(j:Nat):Stmt:=match s with
 | .ClassDef _ _ _ body _ _ _ _ _ _ _=>body.getD j (.Pass ⟨0,0,0,0⟩)
 |_=> .Pass ⟨0,0,0,0⟩
def iF(s:Stmt):Arguments:=match s with
 | .FunctionDef _ a _ _ _ _ _ _ _ _=>a
 |_=>{posonlyargs:= [],args:= [],vararg:=none,kwonlyargs:= [],kw_defaults:= [],kwarg:=none,defaults:= []}
def fk(s:Stmt):List Stmt:=match s with
 | .FunctionDef _ _ b _ _ _ _ _ _ _=>b
 |_=> []
def av(s:Stmt):Scope:=match s with
 | .FunctionDef _ _ _ _ _ _ sc _ _ _=>sc
 |_=>{kind:= .function,names:= [],isGenerator:=false,isCoroutine:=false}
abbrev cO:qD:=λ_ _ _ _ _ _=>False
abbrev E0:XK:=λ_ _ _=>False
theorem zF{X:Cx}:Passes cO X E0:=λ_ _ _ _ _ _ _ h=>h.elim
structure vO (K:PySem.W.Frag) (x qual:Str) (st:Stmt) (f:Addr) (fd:FuncData):Prop where
 ex:∃(oc:Value)(od:Option Addr)(kV doc pm:Value)(an:Option Addr)(bF ct:Value)(BH:Array (Option Value)),
  fd=PySem.W.fnOf x qual (iF st) (fk st) (av st) .none kV doc pm an bF ct∧K.lookup f=some ⟨oc,od, .func fd,BH⟩∧PySem.W.codeIn K bF qual=true
 kp:PySem.W.keepIn K (.ref f)=true
section
variable {P:Program} {w:World} {K:PySem.W.Frag} {mg:Str→Option Value} {base:Heap}
theorem vO.ok{x qual:Str}{st:Stmt}{f:Addr}{fd:FuncData}{N ps:List Str}{k:Nat}{sp:Sp}(F:vO K x qual st f fd)(S:aI N ps (av st))(len:∀vs H Q E,sp vs H Q E→vs.length=ps.length)
  (oE:∀(bF:Value)(A:Around)(outer:List Env)(s:Shared)(H:Hp)(vs:List V)(Q:VK)(E:XK),cC k (A.deeper (envOfC qual (av st) s.heap.objs.size f bF))→sp vs H Q E→
   ∃t,lD (rM cO P w K mg base N qual (av st) f bF A outer s H E).jq (fk st) t∧t {nx:=λ_ H'=>Q .bf H',rt:=Q} (start N vs) H):FnOk P w K mg base cO (k+1) f fd ps sp:=by
 obtain ⟨oc,od,kV,doc,pm,an,bF,ct,BH,rfl,lk,fT⟩:=F.ex;refine NY lk fT S len λA outer s H vs Q E hr Bq=>?_;obtain ⟨t,h,q⟩:=oE bF A outer s H vs Q E hr Bq;exact ⟨t,h.jq,q⟩
theorem vO.binds{x qual:Str}{st:Stmt}{f:Addr}{fd:FuncData}{ps:List Str}(F:vO K x qual st f fd)
  (h:∀(kV doc pm:Value)(an:Option Addr)(bF ct:Value)(us:List Value),us.length=ps.length→bindArgs (PySem.W.fnOf x qual (iF st) (fk st) (av st) .none kV doc pm an bF ct) ⟨us,[]⟩=pure (ps.zip us)):Binds K fd ps []:=by
 obtain ⟨oc,od,kV,doc,pm,an,bF,ct,BH,rfl,lk,fT⟩:=F.ex;exact .all (h kV doc pm an bF ct)
theorem pH{x qual:Str}{st:Stmt}{f:Addr}{oc:Value}{od an:Option Addr}{BH:Array (Option Value)}{kV doc pm bF ct:Value}(l:K.lookup f=some ⟨oc,od, .func (PySem.W.fnOf x qual (iF st) (fk st) (av st) .none kV doc pm an bF ct),BH⟩)
  (c:PySem.W.codeIn K bF qual=true) (k:PySem.W.keepIn K (.ref f)=true):vO K x qual st f (PySem.W.fnOf x qual (iF st) (fk st) (av st) .none kV doc pm an bF ct):=⟨⟨oc,od,kV,doc,pm,an,bF,ct,BH,rfl,l,c⟩,k⟩
end
theorem kB{n:Nat}(h:n≤1000):n<sizeLine:=Nat.lt_of_le_of_lt h (by decide)
section
variable {X:Cx}
theorem pv(i:Nat){x:Str}{pos:Pos}(hN:X.N[i]? =some x:=by rfl)(hv:sH X.env.scope x:=by first|exact Or.inl rfl|exact Or.inr (Or.inl rfl) |exact Or.inr (Or.inr rfl))(hd:(x==("__debug__":Str))=false:=by decide)
  (fT:(x==("__classdict__":Str))=false:=by decide):PE X (.Name x pos) (MX i):=E6 hN hv hd fT
end
theorem cF{A B:Prop}(h:B):if false=true then A else B:=by
 rw [if_neg cN];exact h
theorem cM{A B:Prop}(h:A):if true=true then A else B:=by
 rw [if_pos rfl];exact h
def aH(H H':Hp):Prop:=∀b o,H b=some o→H' b=some o
theorem aH.refl(H:Hp):aH H H:=λ_ _ h=>h
theorem aH.trans{H H1 H2:Hp}(a:aH H H1)(b:aH H1 H2):aH H H2:=λc o h=>b c o (a c o h)
theorem aH.free{H H':Hp}(e:aH H H'){l:Addr}(h:H' l=Option.none):H l=Option.none:=by
 cases q:H l with
 |none=>rfl
 |some o=>
  rw [e l o q] at h;cases h
def g5(env:Env):List (Str×NameKind)→List (Str×Addr)→List (Str×Addr)
 | [],cs=>cs
 | (n,k)::r,cs=>if k==NameKind.free then g5 env r ((n,(env.cells.lookup n).getD 0)::cs) else g5 env r cs
theorem gn{scope:Scope}{env:Env}(h:∀x∈scope.names,x.2= .free→∃c,env.cells.lookup x.1=some c):closureFor scope env=pure (g5 env scope.names []):=by
 simp only [closureFor]
 have go:∀(names:List (Str×NameKind))(cs:List (Str×Addr)),(∀x∈names,x.2= .free→∃c,env.cells.lookup x.1=some c)→
   (forIn names cs λx __s=>if (x.snd==NameKind.free)=true then (do let a ←cellOf env x.fst;pure (ForInStep.yield ((x.fst,a)::__s))) else pure (ForInStep.yield __s))=(pure (g5 env names cs):Sem _):=by
  intro names
  induction names with
  |nil=>intro cs _;rfl
  |cons x r ih=>
   intro cs h;obtain ⟨n,k⟩:=x;rw [List.forIn_cons,g5];have hr:=λcs=>ih cs λy hy=>h y (cI _ hy);cases hk:k==NameKind.free with
   |false=>
    simp only [hk,kQ,if_false];exact hr cs
   |true=>
    have jF:k= .free:=by simpa using hk
    obtain ⟨c,hc⟩:=h (n,k) cB jF;simp only at hc;simp only [if_true,cellOf,hc];exact hr _
 rw [go _ _ h];rfl
theorem eS{env:Env}:∀(names:List (Str×NameKind))(cs:List (Str×Addr)),(∀x∈names,x.2= .free→∃c,env.cells.lookup x.1=some c)→(∀x c,cs.lookup x=some c→env.cells.lookup x=some c)→
  ∀x c,(g5 env names cs).lookup x=some c→env.cells.lookup x=some c
 | [],cs,_,hc=>hc
 | (n,k)::r,cs,h,hc=>by
  rw [g5]
  split
  ·rename_i hk
   refine eS r _ (λy hy=>h y (cI _ hy)) λx c e=>?_;obtain ⟨c',uf⟩:=h (n,k) cB (by simpa using hk)
   rw [qz] at e
   split at e
   ·rename_i hx
    have OJ:x=n:=by simpa using hx
    subst OJ;simp only at uf;rw [uf] at e ⊢;exact e
   ·exact hc x c e
  ·exact eS r cs (λy hy=>h y (cI _ hy)) hc
theorem mT{env:Env}:∀(names:List (Str×NameKind))(cs:List (Str×Addr))(x:Str),((x,NameKind.free)∈names∨∃c,cs.lookup x=some c)→∃c,(g5 env names cs).lookup x=some c
 | [],cs,x,h=>by
  rcases h with h|h
  ·cases h
  ·exact h
 | (n,k)::r,cs,x,h=>by
  rw [g5]
  split
  ·rename_i hk
   refine mT r _ x ?_
   by_cases e:x=n
   ·subst e;exact .inr ⟨(env.cells.lookup x).getD 0,by simp [qz]⟩
   ·have ne:(x==n)=false:=by simpa using e
    rcases h with h| ⟨c,h⟩
    ·rcases cn.mp h with z|z
     ·cases z;exact absurd rfl e
     ·exact .inl z
    ·exact .inr ⟨c,by rw [qz,ne];exact h⟩
  ·rename_i hk
   refine mT r cs x ?_
   rcases h with h|h
   ·rcases cn.mp h with z|z
    ·cases z;exact absurd rfl hk
    ·exact .inl z
   ·exact .inr h
def kO(src:List (Option Nat))(σ:St):St:=src.map λo=>o.bind λi=>(σ[i]?).bind id
def cP(scope:Scope)(XN:List Str):List (Option Nat)→List Str→Prop
 | [],[]=>True
 |none::r,_::n=>cP scope XN r n
 |some i::r,x::n=>XN[i]? =some x∧scope.names.lookup x=some .free∧cP scope XN r n
 |_,_=>False
theorem cP.len{scope:Scope}{XN:List Str}:∀{src:List (Option Nat)}{NC:List Str},cP scope XN src NC→src.length=NC.length
 | [],[],_=>rfl
 |none::r,_::n,h=>by have:=cP.len (src:=r) (NC:=n) h;simp [this]
 |some i::r,_::n,h=>by have:=cP.len (src:=r) (NC:=n) h.2.2;simp [this]
 | [],_::_,h=>h.elim
 |none::_,[],h=>h.elim
 |some _::_,[],h=>h.elim
theorem cP.at{scope:Scope}{XN:List Str}:∀{src:List (Option Nat)}{NC:List Str}{j i:Nat}{x:Str},cP scope XN src NC→src[j]? =some (some i)→NC[j]? =some x→XN[i]? =some x∧scope.names.lookup x=some .free
 | [],[],_,_,_,_,h,_=>by simp at h
 |none::r,_::n,0,_,_,_,h,_=>by simp at h
 |none::r,_::n,j+1,i,x,h,h1,h2=>cP.at (src:=r) (NC:=n) (j:=j) h (by simpa using h1) (by simpa using h2)
 |some k::r,y::n,0,i,x,h,h1,h2=>by
  have e1:k=i:=by simpa using h1
  have e2:y=x:=by simpa using h2
  subst e1 e2;exact ⟨h.1,h.2.1⟩
 |some k::r,_::n,j+1,i,x,h,h1,h2=>cP.at (src:=r) (NC:=n) (j:=j) h.2.2 (by simpa using h1) (by simpa using h2)
 | [],_::_,_,_,_,h,_,_=>h.elim
 |none::_,[],_,_,_,h,_,_=>h.elim
 |some _::_,[],_,_,_,h,_,_=>h.elim
structure bY (X:Cx) (scope:Scope):Prop where
 kind:scope.kind= .function
 names:∀x∈scope.names,x.2= .local→scope.names.lookup x.1=some .local
 nocell:∀x∈scope.names,x.2≠ .cell
 free:∀x∈scope.names,x.2= .free→X.env.kindOf x.1=some .cell∨X.env.kindOf x.1=some .free
theorem gW{env:Env}:∀(names:List (Str×NameKind))(x:Str),
  (names.map λ(n,k)=>if (k==NameKind.free&&env.scope.kind== .function&&env.kindOf n==some .cell) then (n,NameKind.cell) else (n,k)).lookup x=
   (names.lookup x).map λk=>if (k==NameKind.free&&env.scope.kind== .function&&env.kindOf x==some .cell) then NameKind.cell else k
 | [],_=>rfl
 | (n,k)::r,x=>by
  have ih:=gW (env:=env) r x;show List.lookup x ((if (k==NameKind.free&&env.scope.kind== .function&&env.kindOf n==some .cell)=true then (n,NameKind.cell) else (n,k))::_)=_;cases hx:x==n with
  |true=>
   have e:x=n:=by simpa using hx
   subst e
   by_cases hc:(k==NameKind.free&&env.scope.kind== .function&&env.kindOf x==some .cell)=true
   ·rw [if_pos hc,qz,qz]
    simp only [hx];show some NameKind.cell=some (if _ then _ else _);rw [if_pos hc]
   ·rw [if_neg hc,qz,qz]
    simp only [hx];show some k=some (if _ then _ else _);rw [if_neg hc]
  |false=>
   by_cases hc:(k==NameKind.free&&env.scope.kind== .function&&env.kindOf n==some .cell)=true
   ·rw [if_pos hc];simp only [qz,hx];exact ih
   ·rw [if_neg hc];simp only [qz,hx];exact ih
theorem mem_lookup{names:List (Str×NameKind)}{x:Str}{k:NameKind}(h:names.lookup x=some k):(x,k)∈names:=PySem.mem_of_lookup h
def cc(X:Cx)(scope:Scope)(NC:List Str)(ex:List Addr)(s:Shared)(H:Hp):Cx:=
 {X with N:=NC,s₀:=s,H₀:=H,env:=compEnvC scope (g5 X.env scope.names []) s.heap.objs.size X.env,outer:=X.stack,stack:=X.stack,ex:=ex,fn:=λ_=>false,pn:= [],xe:=λ_ _=>False}
section
variable {X:Cx} {pins:List (Addr×Obj)} {σ:St} {H:Hp} {s:Shared} {scope:Scope} {NC:List Str} {ex:List Addr} {src:List (Option Nat)}
theorem bY.cells(c:bY X scope)(ok:X.Ok):∀x∈scope.names,x.2= .free→∃c,X.env.cells.lookup x.1=some c:=λx hx e=>ok.has x.1 (c.free x hx e)
theorem bY.OR(c:bY X scope){C:Addr}{x:Str}{k:NameKind}(h:(compEnvC scope (g5 X.env scope.names []) C X.env).kindOf x=some k)(hk:k= .cell∨k= .free):scope.names.lookup x=some .free:=by
 have h':(relabel scope X.env).names.lookup x=some k:=h;unfold relabel at h';rw [gW] at h';cases e:scope.names.lookup x with
 |none=>rw [e] at h';cases h'
 |some k'=>
  have nc:=c.nocell _ (mem_lookup e);rw [e] at h';have h2:(if (k'==NameKind.free&&X.env.scope.kind== .function&&X.env.kindOf x==some .cell) then NameKind.cell else k')=k:=Option.some.inj h'
  by_cases hf:k'= .free
  ·rw [hf]
  ·have hb:(k'==NameKind.free)=false:=by simpa using hf
   rw [hb,vw,vw,if_neg cN] at h2
   rcases hk with z|z
   ·rw [h2] at nc;exact absurd z nc
   ·rw [h2] at hf;exact absurd z hf
theorem Hj(I:Inv X pins σ H s)(c:bY X scope)(hf:∀b∈ex,e7 X pins H b)(bN:∀b∈ex,b<s.heap.objs.size):(cc X scope NC ex s H).Ok where
 mod:=I.ok.mod
 kind:=c.kind
 glob:=I.ok.glob
 blt:=I.ok.blt
 above:=bx _
 inj:=λx y d h1 h2=>I.ok.inj x y d (eS _ _ (c.cells I.ok) (λ_ _ z=>by cases z) x d h1) (eS _ _ (c.cells I.ok) (λ_ _ z=>by cases z) y d h2)
 has:=λx hx=>mT _ _ x (.inl (mem_lookup (by rcases hx with h|h<;>exact c.OR h (by simp))))
 cab:=λ_ _ z=>by cases z
 hd:=I.ok.hd
 frames:=I.ok.frames
 stk:= .inl rfl
 exf:=λb hb=>⟨bQ (bN b hb),λx d e=>(hf b hb).2.2.2.2.1 x d (eS _ _ (c.cells I.ok) (λ_ _ z=>by cases z) x d e)⟩
 bs:=I.bs
 bsz:=kX I.ok.bsz I.sz
 noex:=λb o e hb=>by
  rcases (hf b hb).2.2.2.1 with z|z
  ·exact I.ok.noex b o e z
  ·exact absurd (gf (Heap.lt_size e) (kX I.ok.bsz z)) (gP _)
 exfs:=λb hb z=>(cn.mp (I.zU b z)).elim (hf b hb).2.1 (hf b hb).2.2.1
 funs:=I.stack
 frf:=I.B9
theorem wq{h1:Heap}{tk:Nat}{ob:Obj}(I:Inv X pins σ H s)(c:bY X scope)(dZ:cP scope X.N src NC)(hf:∀b∈ex,e7 X pins H b)(bN:∀b∈ex,b<s.heap.objs.size)
  (zf:h1.Ns s.heap.objs.size (λ_=>none)) (zh:Heap.SameBut s.heap.objs.size (s.heap.push ob) h1):
  Inv (cc X scope NC ex s H) [] (kO src σ) H {s with heap:=h1,toks:=tk}:=by
 have old:∀b o,s.heap.get? b=some o→h1.get? b=some o:=λb o e=>zh.extBut b o (bQ (Heap.lt_size e)) (Heap.get?_push_of_some _ e);have cl:∀x d,(g5 X.env scope.names []).lookup x=some d→X.env.cells.lookup x=some d:=λx d=>eS _ _ (c.cells I.ok) (λ_ _ z=>by cases z) x d
 have cellK:∀d v,s.heap.IsCell d v→h1.IsCell d v:=λd v ⟨o,ho,hd⟩=>⟨o,old d o ho,hd⟩;refine ⟨Hj I c hf bN,rfl,I.bare,Un.kept old,⟨_,zf,λj x v e1 e2 e3=>?_⟩,λx d e=>?_,I.hok.fresh (bx _),λx d e=>I.freeC x d (cl x d e),λp hp=>absurd (show p∈([]:List (Addr×Obj)) from hp) (by simp),I.hok.kept old,?_⟩
 ·have iX:(kO src σ)[j]? =some (some v):=e2
  unfold kO at iX;rw [fc] at iX;cases ej:src[j]? with
  |none=>rw [ej] at iX;cases iX
  |some o=>
   rw [ej] at iX;cases o with
   |none=>cases iX
   |some i=>
    have e4:(σ[i]?).bind id=some v:=Option.some.inj iX
    have e5:σ[i]? =some (some v):=by
     cases q:σ[i]? with
     |none=>rw [q] at e4;cases e4
     |some z=>rw [q] at e4;exact congrArg some e4
    obtain ⟨hN,Ou⟩:=dZ.at ej e1;have hk:=c.free _ (mem_lookup Ou) rfl;obtain ⟨m,hn,hl⟩:=I.loc;obtain ⟨u,r,l⟩:=hl i x v hN e5 (hk.elim (λz=> .inr (.inl z)) (λz=> .inr (.inr z)));refine ⟨u,r, .inr ⟨?_,?_⟩⟩
    ·show (relabel scope X.env).names.lookup x=_∨(relabel scope X.env).names.lookup x=_
     unfold relabel;rw [gW,Ou]
     by_cases z:(NameKind.free==NameKind.free&&X.env.scope.kind== .function&&X.env.kindOf x==some .cell)=true
     ·left;simp only [Option.map_some,z,if_true]
     ·right;simp only [Option.map_some,z];rfl
    ·obtain ⟨d,hd⟩:=mT (env:=X.env) scope.names [] x (.inl (mem_lookup Ou))
     refine ⟨d,hd,?_⟩
     rcases l with ⟨l,_⟩ | ⟨_,d',e,z⟩
     ·exfalso;rcases hk with z|z<;>(rw [l] at z;cases z)
     ·rw [cl x d hd] at e;cases e;exact cellK d _ z
 ·obtain ⟨v,z⟩:=I.cell x d (cl x d e)
  exact ⟨v,cellK d v z⟩
 ·show (kO src σ).length=NC.length
  unfold kO;rw [aK];exact dZ.len
theorem comp_back{H':Hp}{aw:St}{s':Shared}{h2:Heap}{zG:List (Addr×Obj)}(I:Inv X pins σ H s)(hf:∀b∈ex,e7 X pins H b)(J:Inv (cc X scope NC ex s H) zG aw H' s')
  (zh:Heap.SameBut s.heap.objs.size s'.heap h2):Inv X pins σ H' {s' with heap:=h2}:=by
 have up:∀b o,b≠s.heap.objs.size→s'.heap.get? b=some o→h2.get? b=some o:=λb o hb e=>zh.extBut b o hb e;have ne:∀b o,s.heap.get? b=some o→b≠s.heap.objs.size:=λb o e=>bQ (Heap.lt_size e);have u:=J.base;refine I.M7 (ch:=ex) (show s'.os=s.os from J.os) ⟨λb o e n hb hx=>up b o (ne b o e) (u.keep b o e n hb hx),λb o e n hb hx=>?_,u.free,λb o e hx=>?_,u.tups,u.frzs,u.tbls⟩ ?_ J.bare λb hb=>?_
 ·obtain ⟨sl,q⟩:=u.slot b o e n hb hx
  exact ⟨sl,up b _ (ne b o e) q⟩
 ·obtain ⟨o',q⟩:=u.there b o e hx
  exact ⟨o',up b o' (ne b o e) q⟩
 ·intro b o e
  have nC:∀b o,H' b=some o→b≠s.heap.objs.size:=λb o e z=>by
   have:=J.free
   rw [z] at e;have e':H' s.heap.objs.size=none:=this;rw [e'] at e;cases e
  refine (J.hok b o e).r9 (λd v hd q=>up d v ?_ q) (λ_ q=>q) λ_ _ q=>q
  rcases hd with z|z
  ·rw [z];exact nC b o e
  ·exact nC d _ z
 ·obtain ⟨_,f1,_,f3,f4,f5⟩:=hf b hb
  exact ⟨f3,f1,f4,f5⟩
end
def lE(X:Cx)(ifs:List Expr)(t:TT):Prop:=
 ∀(pins:List (Addr×Obj))(s:Shared)(σ:St)(H:Hp)(Q:Bool→Hp→Prop),Inv X pins σ H s→t σ H Q→
  wpAny (model X.prog X.w) X.A (forIn ifs true λc r=>if r=true then do let ok ←isTrue c X.env (eval c X.env);pure (ForInStep.yield ok) else pure (ForInStep.yield r)) (TP X pins σ Q) X.xe s
def Vy:TT:=λ_ H Q=>Q true H
theorem Jn{X:Cx}:lE X [] Vy:=λ_ _ _ H _ I h=>wpAny_tests_nil ⟨H,I,h⟩
theorem Jo{X:Cx}{c:Expr}{t:TT}(h:PT X c t):lE X [c] t:=λpins s σ H Q I q=>wpAny_tests_one (h pins s σ H Q I q)
def VM(J:It)(g:TG)(tt:TT)(te:TE)(D:Addr)(Q:VK)(σ:St)(H:Hp):Prop:=
 ∃W:Nat→Nat→St→Hp→Prop,(∃m,W 0 m σ H)∧∀i m dY H2,W i m dY H2→
  (J.stop i H2∧Q (.ref D) H2)∨
  (J.go i H2∧∃N:St→Hp→Prop,(∀aw H',N aw H'→∃m',m'<m∧W (i+1) m' aw H')∧∀x H3,J.yld i H2 x H3→g x dY H3 λeF H4=>tt eF H4 λb H5=>
   if b=true then te eF H5 λv H6=>∃ys,H6 D=some (.lst ys)∧ys.length<sizeLine∧N eF (upd H6 D (.lst (ys++ [v]))) else N eF H5)
def LM(wi:TI)(g:TG)(tt:TT)(te:TE)(src:List (Option Nat)):TE:=λσ H Q=>wi σ H λJ H1=>∀D,H1 D=none→VM J g tt te D Q (kO src σ) (upd H1 D (.lst []))
section
variable {X:Cx} {elt iter tg:Expr} {ifs:List Expr} {scope:Scope} {pos:Pos} {wi:TI} {g:TG} {tt:TT} {te:TE} {src:List (Option Nat)} {NC:List Str}
theorem rK{pins:List (Addr×Obj)}{σ:St}{s2:Shared}{H2:Hp}{it:Addr}{fp:List Addr}{tn:Nat→Heap→Prop}{J:It}{RR:Value→Addr→Result→Shared→Prop}{E:Value→Shared→Prop}{Q:VK}
  (hc:X.calm=true) (c:bY X scope) (dZ:cP scope X.N src NC) (I2:Inv X pins σ H2 s2) (T:Turn X.prog X.w X.K tg J fp it tn) (jA:tn 0 s2.heap) (f2:∀b∈fp,e7 X pins H2 b)
  (hg:∀s H,PG (cc X scope NC fp s H) tg g) (ht:∀s H,lE (cc X scope NC fp s H) ifs tt) (he:∀s H,PE (cc X scope NC fp s H) elt te)
  (hW:∀D,H2 D=none→∃W:Nat→Nat→St→Hp→Prop,(∃m,W 0 m (kO src σ) (upd H2 D (.lst [])))∧∀i m dY H2,W i m dY H2→
   (J.stop i H2∧Q (.ref D) H2)∨
   (J.go i H2∧∃N:St→Hp→Prop,(∀aw H',N aw H'→∃m',m'<m∧W (i+1) m' aw H')∧∀x H3,J.yld i H2 x H3→g x dY H3 λeF H4=>tt eF H4 λb H5=>
    if b=true then te eF H5 λv H6=>∃ys,H6 D=some (.lst ys)∧ys.length<sizeLine∧N eF (upd H6 D (.lst (ys++ [v]))) else N eF H5))
  (N9:∀D s3 H3 aw H' s',Inv X pins σ H3 s3→(∀b∈fp,e7 X pins H3 b)→Inv (cc X scope NC fp s3 H3) [] aw H' s'→Q (.ref D) H'→RR (.ref D) s3.heap.objs.size (.ok .next) s'):
  wpAny (model X.prog X.w) X.A (newList []) (λacc JO=>wpAny (model X.prog X.w) X.A (newFunctionEnv scope X.env.globals (g5 X.env scope.names []) [] X.env.qual none .none (some X.env)) (λlK u7=>
   codeAny (model X.prog X.w) X.A (.compStart (.ListComp elt [⟨tg,iter,ifs,0⟩] scope pos) 0 (.ref it) acc {lK with scope:=relabel scope X.env}) (RR acc lK.locals) u7) E JO) E s2:=by
 obtain ⟨W,⟨m0,w0⟩,turn⟩:=hW s2.heap.objs.size I2.fresh;have I3:Inv X pins σ (upd H2 s2.heap.objs.size (.lst [])) {s2 with heap:=s2.heap.push {cls:= .type "list",data:= .seq ([]:List Value).toArray}}:=I2.ES (its:= []) (t':=s2.toks) .nil (cw _)
 have F8:∀b∈fp,b<s2.heap.objs.size:=λb hb=>by
  obtain ⟨o,e,_⟩:=T.obj _ _ jA b hb;exact Heap.lt_size e
 have f3:∀b∈fp,e7 X pins (upd H2 s2.heap.objs.size (.lst [])) b:=λb hb=>⟨by rw [aF (bQ (F8 b hb))];exact (f2 b hb).1,(f2 b hb).2⟩
 refine wpAny_newObj_type ?_
 suffices key:∀s3:Shared,Inv X pins σ (upd H2 s2.heap.objs.size (.lst [])) s3→(∀b o,s2.heap.get? b=some o→s3.heap.get? b=some o)→
   wpAny (model X.prog X.w) X.A (newFunctionEnv scope X.env.globals (g5 X.env scope.names []) [] X.env.qual none .none (some X.env)) (λlK u7=>
    codeAny (model X.prog X.w) X.A (.compStart (.ListComp elt [⟨tg,iter,ifs,0⟩] scope pos) 0 (.ref it) (.ref s2.heap.objs.size) {lK with scope:=relabel scope X.env}) (RR (.ref s2.heap.objs.size) lK.locals) u7) E s3 from
  key _ I3 λb o e=>Heap.get?_push_of_some _ e
 intro s3 I3 PK;have sU:tn 0 s3.heap:=T.keep _ _ _ jA λb _ o e=>PK b o e
 have Dl:∀b∈fp,b<s3.heap.objs.size:=λb hb=>by
  obtain ⟨o,e,_⟩:=T.obj _ _ sU b hb;exact Heap.lt_size e
 generalize Xj:upd H2 s2.heap.objs.size (.lst [])=H3 at I3 f3 w0;refine wpAny_newFunctionEnv c.nocell (by intro y hy;simp at hy) (λh1 zf zh=>?_) c.kind
 have I4:=wq (src:=src) (NC:=NC) (ex:=fp) (tk:=s3.toks+([]:List (Str×Value)).length) I3 c dZ f3 Dl zf zh;have JM:tn 0 h1:=T.keep _ _ _ sU λb hb o e=>zh.extBut b o (bQ (Dl b hb)) (Heap.get?_push_of_some _ e);generalize hX:cc X scope NC fp s3 H3=XC at I4
 have stat:∀{H':Hp},(∀b∈fp,H' b=none)→∀b∈fp,e7 XC [] H' b:=λ {H'} hn b hb=>by
  subst hX;refine ⟨hn b hb,bQ (Dl b hb),λz=>?_, .inl hb,λx d e=>?_,λp hp=>absurd (show p∈([]:List (Addr×Obj)) from hp) (by simp)⟩
  ·exact (I4.ok.exfs b hb) z
  ·exact (I4.ok.exf b hb).2 x d e
 have loop:codeAny (model X.prog X.w) X.A (.compLoop (.ListComp elt [⟨tg,iter,ifs,0⟩] scope pos) 0 (.ref it) (.ref s2.heap.objs.size) XC.env) (RR (.ref s2.heap.objs.size) s3.heap.objs.size)
   {s3 with heap:=h1,toks:=s3.toks+([]:List (Str×Value)).length}:=by
  refine codeAny_loop rfl (λn s'=>∃i aw H',Inv XC [] aw H' s'∧tn i s'.heap∧(∀b∈fp,H' b=none)∧W i n aw H') (λn s' hI=>?_) m0 ⟨0,_,_,I4,JM,λb hb=>(f3 b hb).1,w0⟩;obtain ⟨i,aw,H',I5,sV,vX,w5⟩:=hI;show wpAny _ X.A ((compTurn (.ListComp elt [⟨tg,iter,ifs,0⟩] scope pos) 0 (.ref it) (.ref s2.heap.objs.size) XC.env).onRaise (λx=>do noteFrame x XC.env;theTreesLotGoes x)) _ _ s'
  refine wpAny_noted ?_;rw [compTurn_list]
  have jq:∀{α:Type}{t:Sem α}{Q:α→Shared→Prop}{E:Value→Shared→Prop}{s:Shared},wpAny (model XC.prog XC.w) XC.A t Q XC.xe s→wpAny (model X.prog X.w) X.A t Q E s:=λ {α t Q E s} h=>by
   subst hX;exact wpAny_mono h (λ_ _ q=>q) λ_ _ f=>f.elim
  have FN:XC.calm=true:=by subst hX;exact hc
  have eP:XC.prog=X.prog:=by subst hX;rfl
  have ew:XC.w=X.w:=by subst hX;rfl
  have eK:XC.K=X.K:=by subst hX;rfl
  have eA:XC.A=X.A:=by subst hX;rfl
  have Ov:PG XC tg g:=by subst hX;exact hg _ _
  have OG:lE XC ifs tt:=by subst hX;exact ht _ _
  have Oo:PE XC elt te:=by subst hX;exact he _ _
  refine wpAny_bind (wpAny_standAt (wpAny_bind ?_))
  rcases turn i n aw H' w5 with ⟨stop,qn⟩ | ⟨go,N,hN,step⟩
  ·have hd:=T.done XC eP ew eK FN i [] s' aw H' (notedBy (model X.prog X.w) X.A XC.env λe s'=>RR (.ref s2.heap.objs.size) s3.heap.objs.size (.error e) s') I5 (stat vX) sV stop
   rw [eA] at hd;refine thn hd λr s6 ⟨hr,I6⟩=>?_;subst hr;refine wpAny_pure ?_;subst hX;exact N9 _ s3 H3 aw H' s6 I3 f3 I6 qn
  ·have hd:=T.item XC eP ew eK FN i [] s' aw H' (notedBy (model X.prog X.w) X.A XC.env λe s'=>RR (.ref s2.heap.objs.size) s3.heap.objs.size (.error e) s') I5 (stat vX) sV go
   rw [eA] at hd;refine thn hd λr s6 ⟨u,hr,h6⟩=>?_;subst hr;refine wpAny_bind (thn h6 λ_ s7 ⟨x,H7,I7,r7,y7,u6,HK⟩=>?_);have GP:=I7.pinned (stat HK) (T.obj _ _ u6)
   have again:∀{fO:St}{H8:Hp}{s8:Shared},Inv XC ([]++kr fp s7.heap) fO H8 s8→N fO H8→∃m,m<n∧∃i aw H',Inv XC [] aw H' s8∧tn i s8.heap∧(∀b∈fp,H' b=none)∧W i m aw H':=λ {fO H8 s8} I8 n8=>by
    obtain ⟨m',hm,w8⟩:=hN fO H8 n8;refine ⟨m',hm,i+1,fO,H8,I8.iA,T.keep _ _ _ u6 λb hb o e=>(I8.pin (b,o) (fE _ (fE _ (dB hb e)))).1,λb hb=>?_,w8⟩;obtain ⟨o,e,d⟩:=T.obj _ _ u6 b hb;exact (I8.pin (b,o) (fE _ (fE _ (dB hb e)))).2.1
   refine wpAny_bind (jq (thn (Ov _ s7 aw H7 x u _ GP r7 (step x H7 y7)) λ_ s8 ⟨fO,H8,I8,q8⟩=>?_));refine wpAny_bind (jq (thn (OG _ s8 fO H8 _ I8 q8) λb s9 ⟨H9,I9,q9⟩=>?_));cases b with
   |false=>
    rw [if_neg cN] at q9;exact wpAny_pure ⟨by subst hX;rfl,again I9 q9⟩
   |true=>
    rw [if_pos rfl] at q9;refine wpAny_bind (wpAny_bind (jq (thn (Oo _ s9 fO H9 _ I9 q9) λy Ly ⟨v,GL,M3,Pg,ys,hD,hz,Pe⟩=>?_)));refine wpAny_bind (jq (thn (oN _ Ly fO GL (.ref s2.heap.objs.size) [v] _ [y] (λ_ H'=>N fO H') M3 rfl (.cons Pg .nil) ⟨_,ys,v,rfl,rfl,hD,hz,Pe⟩) λ_ Lz ⟨_,J4,GN,_,Pf⟩=>?_));exact wpAny_pure (wpAny_pure ⟨by subst hX;rfl,again GN Pf⟩)
 subst hX;exact codeAny_compStart_list loop (T.self _ 0 _ _ _ JM loop)
theorem I0(hc:X.calm=true)(c:bY X scope)(dZ:cP scope X.N src NC)(hi:PI X tg iter wi)
  (hg:∀ex s H,PG (cc X scope NC ex s H) tg g) (ht:∀ex s H,lE (cc X scope NC ex s H) ifs tt) (he:∀ex s H,PE (cc X scope NC ex s H) elt te)
  (hs:∀x,foldedSetIterable iter X.env x=pure x:=by intro _;rfl):PE X (.ListComp elt [⟨tg,iter,ifs,0⟩] scope pos) (LM wi g tt te src):=by
 intro pins s σ H Q I h;rw [eval_ListComp];refine wpAny_comprehension_free (use:=none) rfl hs (gn (c.cells I.ok)) c.kind c.names (thn (hi pins s σ H _ I h) λv s1 h1=>thn h1 λF1 s2 h2=>?_);obtain ⟨it,fp,tn,J,H2,rfl,I2,T,jA,f2,hW⟩:=h2;refine rK (RR:=λacc C=>compPost (model X.prog X.w) X.A X.xe none (EP X pins σ Q) acc C) (Q:=Q) hc c dZ I2 T jA f2 (hg fp) (ht fp) (he fp) hW ?_;intro D s3 H3 aw H' s' I3 f3 J' q;obtain ⟨m,hn,_⟩:=J'.loc;exact ⟨m,hn,λh' sb=>⟨.ref D,H',comp_back I3 f3 J' sb,rfl,q⟩⟩
def LK(wi:TI)(g:TG)(tt:TT)(te:TE)(src:List (Option Nat))(i:Nat):TS:=λD σ H=>LM wi g tt te src σ H λv H'=>D.nx (σ.set i (some v)) H'
theorem xm{i:Nat}{x:Str}{px gK:Pos}(hc:X.calm=true)(hN:X.N.Nodup)(h7:X.N[i]? =some x)(hx:Loc X.env.scope x)(c:bY X scope)(dZ:cP scope X.N src NC)(hi:PI X tg iter wi)
  (hg:∀ex s H,PG (cc X scope NC ex s H) tg g) (ht:∀ex s H,lE (cc X scope NC ex s H) ifs tt) (he:∀ex s H,PE (cc X scope NC ex s H) elt te)
  (j7:swapsWith (.ListComp elt [⟨tg,iter,ifs,0⟩] scope pos) (some (.Name x px)) gK.line X.env=pure true)
  (hf:X.fn x=true∨X.env.scope.names.lookup x=some .local:=by first|exact .inl rfl|exact .inr rfl|assumption)
  (hs:∀x,foldedSetIterable iter X.env x=pure x:=by intro _;rfl):PS X (.Assign [.Name x px] (.ListComp elt [⟨tg,iter,ifs,0⟩] scope pos) gK) (LK wi g tt te src i):=by
 intro pins s σ H D I h;rw [exec_Assign_Name_used _ _ _ _ j7];refine wpAny_bind (wpAny_standAt (wpAny_bind ?_));show wpAny _ X.A (do let _ ←comprehension (.ListComp elt [⟨tg,iter,ifs,0⟩] scope pos) scope X.env _ (newList []) false (eval iter X.env) (some (assign (.Name x px) X.env))) _ _ s
 refine wpAny_bind (wpAny_mono (wpAny_comprehension_free (use:=some (assign (.Name x px) X.env)) (Q:=λ_ s'=>SP X pins D .next s') rfl hs (gn (c.cells I.ok)) c.kind c.names
  (thn (hi pins s σ H _ I h) λv s1 h1=>thn h1 λF1 s2 h2=>?_)) (λ_ s' hq=>wpAny_pure (wpAny_pure hq)) λ_ _ e=>e)
 obtain ⟨it,fp,tn,J,H2,rfl,I2,T,jA,f2,hW⟩:=h2;refine rK (RR:=λacc C=>compPost (model X.prog X.w) X.A X.xe (some (assign (.Name x px) X.env)) (λ_ s'=>SP X pins D .next s') acc C) (Q:=λv H'=>D.nx (σ.set i (some v)) H') hc c dZ I2 T jA f2 (hg fp) (ht fp) (he fp) hW ?_;intro a s3 H3 aw H' s' I3 f3 J' q;obtain ⟨m,hn,_⟩:=J'.loc;have IX:Inv X pins σ H' s':=comp_back I3 f3 J' (.refl ..);show wpAny _ X.A (assign (.Name x px) X.env (.ref a)) _ _ _;have nL:s3.heap.objs.size≠X.env.locals:=Nat.ne_of_gt I3.lt
 have nc:∀y d,X.env.cells.lookup y=some d→d≠s3.heap.objs.size:=λy d e z=>by
  obtain ⟨v,hv⟩:=I3.cell y d e
  have:=hv.lt
  rw [z] at this;exact absurd this (gP _)
 have np:∀p∈X.pn++pins,p.1≠s3.heap.objs.size:=λp hp z=>by
  have:=Heap.lt_size (I3.pin p hp).1
  rw [z] at this;exact absurd this (gP _)
 obtain ⟨oC,es,ep,OD,CU,rC⟩:=id hn;have HQ:H' s3.heap.objs.size=none:=J'.free
 have IP:Inv X ((s3.heap.objs.size,oC)::pins) σ H' s':=IX.jP λp hp=>by
  rcases cn.mp hp with z|z
  ·rw [z]
   exact ⟨OD,HQ,nL,I3.IH (bx _),λv w=>by rw [CU] at w;cases w⟩
  ·exact IX.pin p (fE _ z)
 refine wpAny_assign_Name (nj (x:=x) IP hN h7 hx (v:= .ref a) rfl (λs5 I5=>?_) hf);have N5:=(I5.pin (s3.heap.objs.size,oC) (fE _ cB)).1;refine ⟨m,⟨oC,es,ep,N5,CU,rC⟩,λh6 sb=>?_⟩;have GO:Inv X pins (σ.set i (some (.ref a))) H' s5:=I5.jP λp hp=>I5.pin p (fE _ (cI _ hp));exact ⟨_,H',GO.turned (t':=s5.toks) (it:=s3.heap.objs.size) (λb o hb e=>sb.extBut b o hb e) HQ nL (.inr I3.sz) nc np,q⟩
end
section
variable {X:Cx} {pins:List (Addr×Obj)} {σ:St} {H:Hp} {s:Shared} {h':Heap} {fp:List Addr}
theorem Inv.Ce{t':Nat}(I:Inv X pins σ H s)(hf:∀b∈fp,e7 X pins H b)(k:∀b o,b∉fp→s.heap.get? b=some o→h'.get? b=some o):Inv X pins σ H {s with heap:=h',toks:=t'}:=by
 refine I.step (g':=s.gens) (d':=s.drawn) (ch:=fp) (λb hb=>?_) (λb o _ _ hc e _=>k b o hc e) (λb o _ _ hc e _=>⟨o.slots,k b o hc e⟩) (λ_ _ _ _ n=>n)
  (λb o hc e=>⟨o,k b o hc e⟩) (λ_ _ e=>e) (λ_ _ _ e=>e) (λb ps e=>⟨#[],by rw [e];simp⟩) (λm hm=>?_) (λb u e=>?_) I.bare
 ·obtain ⟨_,f1,_,f3,f4,f5⟩:=hf b hb
  exact ⟨f3,f1,f4,f5⟩
 ·obtain ⟨o,es,ep,ho,r⟩:=hm
  exact ⟨o,es,ep,k _ o (λz=>(hf _ z).2.1 rfl) ho,r⟩
 ·have nf:∀b u,H b=some u→b∉fp:=λb u e z=>by rw [(hf b z).1] at e;cases e
  refine (I.hok b u e).r9 (λc v hc q=>k c v ?_ q) (λ_ q=>q) λ_ _ q=>q
  rcases hc with z|z
  ·rw [z];exact nf b u e
  ·exact nf c _ z
theorem Inv.JT{t':Nat}{t:Addr}{o:HO}(I:Inv X pins σ H s)(hf:∀b∈fp,e7 X pins H b)(k:∀b o,b∉fp→s.heap.get? b=some o→h'.get? b=some o)(ht:s.heap.objs.size≤t)
  (new:cV X.prog X.w (upd H t o) h' t o):Inv X pins σ (upd H t o) {s with heap:=h',toks:=t'}:=by
 have nt:H t=none:=I.hok.fresh ht;have up:∀b u,H b=some u→upd H t o b=some u:=λb u e=>by rw [aF (aW e nt)];exact e
 refine I.step (g':=s.gens) (d':=s.drawn) (ch:=fp) (λb hb=>?_) (λb o _ _ hc e _=>k b o hc e) (λb o _ _ hc e _=>⟨o.slots,k b o hc e⟩) (λb o _ e n=>?_)
  (λb o hc e=>⟨o,k b o hc e⟩) (λb xs e=>up b _ e) (λb _ _ e=>up b _ e) (λb ps e=>⟨#[],by rw [up b _ e];simp⟩) (λm hm=>?_) (λb u e=>?_) I.bare
 ·obtain ⟨_,f1,_,f3,f4,f5⟩:=hf b hb
  exact ⟨f3,f1,f4,f5⟩
 ·rw [aF (bQ (gf (Heap.lt_size e) ht))];exact n
 ·obtain ⟨o,es,ep,ho,r⟩:=hm
  exact ⟨o,es,ep,k _ o (λz=>(hf _ z).2.1 rfl) ho,r⟩
 ·by_cases hb:b=t
  ·subst hb
   rw [ax] at e;cases e;exact new
  ·rw [aF hb] at e
   have nf:∀b u,H b=some u→b∉fp:=λb u e z=>by rw [(hf b z).1] at e;cases e
   refine (I.hok b u e).r9 (λc v hc q=>k c v ?_ q) (λb' q=>up b' _ q) λb' _ q=>up b' _ q
   rcases hc with z|z
   ·rw [z];exact nf b u e
   ·exact nf c _ z
end
def M4(K:PySem.W.Frag)(a:Addr):It:=
 ⟨λi H=>∃xs x,cp K H a xs∧xs[i]? =some x,λi H y H'=>∃t x,y= .ref t∧H t=none∧H'=upd H t (.tup [.int i,x])∧∀xs,cp K H a xs→xs[i]? =some x,λi H=>∃xs,cp K H a xs∧xs.length≤i⟩
theorem Bu{h:Heap}{t:Addr}{u v:Value}(e:h.get? t=some {cls:= .type "tuple",data:= .seq #[u,v]}):IsTup h t [u,v].toArray:=⟨_,e,rfl,_,rfl⟩
theorem Eh{P:Program}{w:World}{K:PySem.W.Frag}{es:List Expr}{k1}{tp:Pos}(a e it:Addr)(ne:e≠it):
  Turn P w K (.Tuple es k1 tp) (M4 K a) [e,it] e (λi h=>(∃old,IsEnum h e it i old)∧h.IsListIter it a i) where
 mem:=by simp
 obj:=λi h st b hb=>by
  obtain ⟨⟨old,he⟩,o,e2,c,d⟩:=st
  rcases cn.mp hb with z|z
  ·subst z
   exact ⟨_,he,λv w=>by cases w⟩
  ·have z':b=it:=by simpa using z
   subst z';exact ⟨o,e2,λv z=>by rw [d] at z;cases z⟩
 keep:=λi h h' st k=>by
  obtain ⟨⟨old,he⟩,jA⟩:=st;exact ⟨⟨old,k e (by simp) _ he⟩,jA.at λo q=>k it (by simp) o q⟩
 item:=by
  intro X hP hw hK hc i pins s σ H E I hf st hg;subst hP hw hK;obtain ⟨xs,x,hq,hx⟩:=hg;obtain ⟨its,rv,p,hz⟩:=I.list hq;obtain ⟨u,hu,ru⟩:=rv.get hx;obtain ⟨⟨old,he⟩,hit⟩:=st;refine wpAny_pyNext_enum_item he hit p.isList (x:=u) (by simpa using hu) ne λh' Om HY X3 aah kk=>?_
  have k2:∀b o,b∉ [e,it]→s.heap.get? b=some o→h'.get? b=some o:=λb o hb q=>kk b o (λz=>hb (by simp [z])) (λz=>hb (by simp [z])) q
  have I1:Inv X pins σ (upd H s.heap.objs.size (.tup [.int i,x])) {s with heap:=h',toks:=s.toks+1}:=
   I.JT hf k2 (bx _) ⟨by show 2≤sizeLine;decide,[.int i s.toks,u], .cons ⟨_,rfl⟩ (.cons ru .nil),Bu X3⟩
  refine ⟨_,rfl,wpAny_letOwnedTupleGo_enum Om λh2 Xw sb=>?_⟩
  have lt:∀b∈ [e,it],b<s.heap.objs.size:=λb hb=>by
   rcases cn.mp hb with z|z
   ·rw [z];exact Heap.lt_size he
   ·obtain ⟨o,e2,_⟩:=hit
    have z':b=it:=by simpa using z
    rw [z'];exact Heap.lt_size e2
  have RX:∀b∈ [e,it],e7 X pins (upd H s.heap.objs.size (.tup [.int i,x])) b:=λb hb=>⟨by rw [aF (bQ (lt b hb))];exact (hf b hb).1,(hf b hb).2⟩
  refine ⟨.ref s.heap.objs.size,_,I1.Ce (t':=s.toks+1) RX (λb o hb q=>sb.extBut b o (λz=>hb (by simp [z])) q),rfl,⟨_,x,rfl,I.hok.fresh (bx _),rfl,λys hy=>by rw [I.w6 hy hq];exact hx⟩,⟨⟨u,?_⟩,HY.extBut sb.extBut (Ne.symm ne)⟩,λb hb=>(RX b hb).1⟩
  have z:((i+1:Nat):Int)=(i:Int)+1:=by omega
  rw [z];exact Xw
 done:=by
  intro X hP hw hK hc i pins s σ H E I hf st hg;subst hP hw hK;obtain ⟨xs,hq,hx⟩:=hg;obtain ⟨its,rv,p,hz⟩:=I.list hq;have hl:=rv.length;obtain ⟨⟨old,he⟩,hit⟩:=st;exact wpAny_pyNext_enum_end (I.ok.hd hc) he hit p.isList (by simp;omega) λh' eb=>⟨rfl,I.Ce (t':=s.toks) hf λb o hb q=>eb b o (λz=>hb (by simp [z])) q⟩
 self:=λ_ _ _ _ _ st h=>by
  obtain ⟨⟨old,he⟩,_⟩:=st;exact wpAny_pyIter_enum he h
section
variable {X:Cx}
def OL(K:PySem.W.Frag)(ta:TA):TI:=λσ H R=>ta σ H λvs H1=>∃a,vs= [.ref a]∧(∃xs,H1 a=some (.lst xs))∧R (M4 K a) H1
theorem Jf{a:Expr}{ta:TA}{p pos:Pos}{es:List Expr}{k1}{tp:Pos}(hg:Gl X "enumerate")(hm:X.mg "enumerate"=none)(ha:PA X [a] ta)(hs:starEach [a] X.env= [(false,eval a X.env)]:=by rfl):
  PI X (.Tuple es k1 tp) (.Call (.Name "enumerate" p) [a] [] pos) (OL X.K ta):=by
 intro pins s σ H R I h;refine Call_ (ic I hg hm boot_enumerate (PyProof.Rows.callWith_type1 (thn (ha pos pins s σ H _ I h) λus s1 ⟨vs,H1,I1,r1,q1⟩=>?_) hs rfl));obtain ⟨l,e,⟨xs,hl⟩,q⟩:=q1;subst e;obtain ⟨u,rfl,ru⟩:=r1.one;cases ru;obtain ⟨z,its,n,rv,hlen,e⟩:=I1.nQ hl;refine call_enumerate_1 e λh' he hit eD kk=>?_;refine wpAny_pyIter_enum he ?_;have C2:s1.heap.objs.size+1≠s1.heap.objs.size:=Nat.succ_ne_self _;refine ⟨s1.heap.objs.size+1,[s1.heap.objs.size+1,s1.heap.objs.size],_,_,H1,rfl,I1.kept (t':=s1.toks) kk,Eh l _ _ C2,⟨⟨_,he⟩,hit⟩,λb hb=>?_,q⟩
 have Kr:s1.heap.objs.size≤b:=by
  rcases cn.mp hb with z|z
  ·rw [z];exact mQ _
  ·have z':b=s1.heap.objs.size:=by simpa using z
   rw [z'];exact bx _
 exact I1.HJ Kr (I1.hok.fresh Kr)
end
end L2
namespace Wb
abbrev W:=List (List Nat)
def row(w:W)(p:Nat):List Nat:=w.getD p []
inductive Reach (w:W):Nat→Nat→Prop
 |refl (p):Reach w p p
 |step {p q r}:Reach w p q→r∈row w q→Reach w p r
structure Good (w:W):Prop where
 rng:∀p q,q∈row w p→q<w.length
 irr:∀p,p∉row w p
 nod:∀p,(row w p).Nodup
 sym:∀p q,q∈row w p→p∈row w q
 con:∀p,p<w.length→Reach w 0 p
theorem bC{w:W}{p q:Nat}(h:q∈row w p):p<w.length:=by
 apply Classical.byContradiction;intro hn;unfold row at h;rw [aS,n6 (by omega)] at h
 simp at h
theorem Jy{w:W}{p:Nat}(h:p<w.length):w[p]? =some (row w p):=by
 unfold row;rw [aS,bA h];rfl
theorem Fg{w:W}{p:Nat}{r:List Nat}(h:w[p]? =some r):row w p=r:=by
 unfold row;rw [aS,h];rfl
theorem BV{w:W}{p:Nat}(h:w.length≤p):row w p= []:=by
 unfold row;rw [aS,n6 h];rfl
theorem Reach.trans{w:W}{p q r:Nat}(h:Reach w p q)(h':Reach w q r):Reach w p r:=by
 induction h' with
 |refl=>exact h
 |step _ hr ih=>exact .step ih hr
theorem Reach.symm{w:W}(hs:∀p q,q∈row w p→p∈row w q){p q:Nat}(h:Reach w p q):Reach w q p:=by
 induction h with
 |refl=>exact .refl _
 |step _ hr ih=>exact (Reach.step (.refl _) (hs _ _ hr)).trans ih
theorem Reach.mono{w w':W}(hm:∀p q,q∈row w p→q∈row w' p){p q:Nat}(h:Reach w p q):Reach w' p q:=by
 induction h with
 |refl=>exact .refl _
 |step _ hr ih=>exact .step ih (hm _ _ hr)
def ins{α:Type}(xs:List α)(i:Nat)(x:α):List α:=xs.take i++x::xs.drop i
theorem qM{α:Type}(xs:List α)(i:Nat)(x:α):(ins xs i x).Perm (x::xs):=by
 unfold ins;have h:= @List.perm_middle _ x (xs.take i) (xs.drop i);rw [gO] at h;exact h
theorem IB{α:Type}{xs:List α}{i:Nat}{x a:α}:a∈ins xs i x↔a=x∨a∈xs:=by
 rw [(qM xs i x).mem_iff,cn]
theorem Dw{α:Type}{xs:List α}{i:Nat}{x:α}(h:xs.Nodup)(hx:x∉xs):(ins xs i x).Nodup:=by
 rw [(qM xs i x).nodup_iff,hU];exact ⟨hx,h⟩
theorem Br{α:Type}(xs:List α)(i:Nat)(x:α):(ins xs i x).length=xs.length+1:=by
 rw [(qM xs i x).length_eq];rfl
theorem good_ren{w w':W}{ord:Nat→Nat}(g:Good w)(hl:w'.length=w.length)(into:∀p,p<w.length→ord p<w.length)
  (inj:∀p q,p<w.length→q<w.length→ord p=ord q→p=q) (GF:∀y,y<w.length→∃p,p<w.length∧ord p=y)
  (MB:∀p,p<w.length→(row w' (ord p)).Perm ((row w p).map ord)):Good w':=by
 have mem:∀p q,p<w.length→(q∈row w' (ord p)↔∃a,a∈row w p∧ord a=q):=λp q hp=>by
  rw [(MB p hp).mem_iff,fg]
 have reach:∀{p q},Reach w p q→Reach w' (ord p) (ord q):=λ {p q} h=>by
  induction h with
  |refl=>exact .refl _
  |step _ hr ih=>exact .step ih ((mem _ _ (bC hr)).mpr ⟨_,hr,rfl⟩)
 refine ⟨λy q hy=>?_,λy hy=>?_,λy=>?_,λy q hy=>?_,λy hy=>?_⟩
 ·obtain ⟨p,hp,rfl⟩:=GF y (by have:=bC hy;omega)
  obtain ⟨a,ha,rfl⟩:=(mem p q hp).mp hy;rw [hl];exact into a (g.rng _ _ ha)
 ·obtain ⟨p,hp,rfl⟩:=GF y (by have:=bC hy;omega)
  obtain ⟨a,ha,e⟩:=(mem p _ hp).mp hy
  have:=inj a p (g.rng _ _ ha) hp e
  subst this;exact g.irr _ ha
 ·by_cases hy:y<w.length
  ·obtain ⟨p,hp,rfl⟩:=GF y hy
   rw [(MB p hp).nodup_iff];unfold List.Nodup;rw [kS];refine List.Pairwise.imp_of_mem ?_ (g.nod p);intro a b ha hb ne e;exact ne (inj a b (g.rng _ _ ha) (g.rng _ _ hb) e)
  ·rw [BV (by omega)];exact kW
 ·obtain ⟨p,hp,rfl⟩:=GF y (by have:=bC hy;omega)
  obtain ⟨a,ha,rfl⟩:=(mem p q hp).mp hy;exact (mem a _ (g.rng _ _ ha)).mpr ⟨p,g.sym _ _ ha,rfl⟩
 ·rw [hl] at hy
  obtain ⟨p,hp,rfl⟩:=GF y hy;obtain ⟨z,hz,e0⟩:=GF 0 (by omega)
  have h1:=reach (((g.con z hz).symm g.sym).trans (g.con p hp));rw [e0] at h1;exact h1
def ae(l:List Nat)(x:Nat):Nat:=l.getD ((l.idxOf x+1)%l.length) 0
def aX(w:W)(d:Nat×Nat):Nat×Nat:=(d.2,ae (row w d.2) d.1)
def aG(w:W)(d:Nat×Nat):Prop:=d.2∈row w d.1
theorem kD{l:List Nat}{x:Nat}(h:x∈l):l[(l.idxOf x+1)%l.length]? =some (ae l x):=by
 have hp:0<l.length:=Cn h;unfold ae;rw [aS,bA (og _ hp)];rfl
theorem bq{l:List Nat}{x:Nat}(h:x∈l):ae l x∈l:=gd (kD h)
theorem IC{a b n:Nat}(ha:a<n)(hb:b<n)(e:(a+1)%n=(b+1)%n):a=b:=by
 by_cases h1:a+1=n
 ·by_cases h2:b+1=n
  ·omega
  ·rw [h1,rG,mM (by omega)] at e;omega
 ·by_cases h2:b+1=n
  ·rw [h2,rG,mM (by omega)] at e;omega
  ·rw [mM (by omega),mM (by omega)] at e;omega
theorem df{l:List Nat}{x y:Nat}(nd:l.Nodup)(hx:x∈l)(hy:y∈l)(e:ae l x=ae l y):x=y:=by
 have hp:0<l.length:=Cn hx;have h1:=kD hx;have h2:=kD hy;rw [e] at h1;have lx:=gN.mpr hx;have ly:=gN.mpr hy;obtain ⟨a1,b1⟩:=eO.mp h1;obtain ⟨a2,b2⟩:=eO.mp h2;have q:=(List.getElem_inj nd).mp (b1.trans b2.symm);have q2:=IC lx ly q;have e1:=iU lx;have e2:=iU ly;rw [←e1,←e2];simp only [q2]
theorem eV{w:W}{d:Nat×Nat}(g:Good w)(h:aG w d):aG w (aX w d):=bq (g.sym _ _ h)
theorem jM{w:W}{d e:Nat×Nat}(g:Good w)(h:aG w d)(h':aG w e)(q:aX w d=aX w e):d=e:=by
 have e2:d.2=e.2:=congrArg Prod.fst q;have e1:ae (row w d.2) d.1=ae (row w e.2) e.1:=congrArg Prod.snd q;rw [←e2] at e1;have h1:d.1∈row w d.2:=g.sym _ _ h;have h2:e.1∈row w d.2:=by rw [e2];exact g.sym _ _ h'
 exact Prod.ext (df (g.nod _) h1 h2 e1) e2
theorem aM{α:Type} [DecidableEq α]:∀{l m:List α},l.Nodup→(∀x∈l,x∈m)→l.length≤m.length
 | [],_,_,_=>cw _
 |a::r,m,nd,h=>by
  have jL:=hU.mp nd;have am:=h a cB;have ih:=aM (l:=r) (m:=m.erase a) jL.2 λx hx=>(List.mem_erase_of_ne (λ(e:x=a)=>jL.1 (by rw [←e];exact hx))).mpr (h x (cI _ hx))
  rw [List.length_erase_of_mem am] at ih
  have:=Cn am
  simp only [dh];omega
theorem iP{w:W}(g:Good w)(p:Nat):(row w p).length≤w.length:=by
 have:=aM (m:=List.range w.length) (g.nod p) λx hx=>bH.mpr (g.rng _ _ hx)
 simpa using this
theorem rJ{w:W}(g:Good w){S:Nat→Prop}(h0:S 0)(hc:∀p q,S p→q∈row w p→S q):∀p,p<w.length→S p:=λp hp=>by
 have:∀{a b},Reach w a b→S a→S b:=λ {a b} h ha=>by
  induction h with
  |refl=>exact ha
  |step _ hr ih=>exact hc _ _ ih hr
 exact this (g.con p hp) h0
def lexLe(a b:Nat×Nat):Prop:=a.1<b.1∨(a.1=b.1∧a.2≤b.2)
theorem F5{a b:Nat×Nat}(h:lexLe a b)(h':lexLe b a):a=b:=by
 unfold lexLe at h h';exact Prod.ext (by omega) (by omega)
end Wb
namespace L2
open PySem PySem.Spec PyProof.Rows
section
variable {X:Cx}
theorem Vals.ins{x:V}{u:Value}(r:RelV x u){xs:List V}{us:List Value}(i:Nat)(h:Vals xs us):Vals (Wb.ins xs i x) (Wb.ins us i u):=(h.take i).append (.cons r (h.drop i))
def Ju:V→List V→Hp→VK→Prop:=λx vs H Q=>∃l xs i y,x= .ref l∧vs= [.int i,y]∧H l=some (.lst xs)∧0≤i∧i≤xs.length∧xs.length<sizeLine∧Q .bf (upd H l (.lst (Wb.ins xs i.toNat y)))
theorem Ds:GU X "list.insert" Ju:=by
 intro pins s σ H x vs v us Q I rx rv h;obtain ⟨l,xs,i,y,rfl,rfl,hH,h0,h1,hz,q⟩:=h;cases rx;obtain ⟨u1,u2,rfl,⟨t,rfl⟩,ru⟩:=rv.two;obtain ⟨z,its,n,r,hl,e⟩:=I.nQ hH;have bN:=ke
 have HW:¬(!Builtin.List.listFitsIndex i)=true:=by
  rw [fitsIndex_both (by omega) (by omega)]
  exact cN
 refine call_meets F.slot_list_insert ⟨_,e,rfl⟩ F.entry_list_insert (F.args_list_insert_3 _ _ _) (AutoSeq1.list_insert_list_int_val_1 l its.toArray n i t u2 HW (by rw [b8];omega)) ⟨e,?_⟩
 refine ⟨.bf,_,I.ET (its':=Wb.ins its i.toNat u2) hH e ?_ (r.ins ru i.toNat) ?_,rfl,q⟩
 ·have hi:¬i<0:=by omega
  have hm:min i.toNat its.length=i.toNat:=by omega
  simp only [hi,if_false,b8,hm];apply Array.toList_inj.mp;unfold Wb.ins;simp;exact vA (by rw [fw];omega)
 ·rw [Wb.Br];omega
def Lw(K:PySem.W.Frag):V→List V→Hp→VK→Prop:=λx vs H Q=>∃(l:Addr)(xs:List V)(y:V)(j:Nat)(z:V),x= .ref l∧vs= [y]∧H l=some (.lst xs)∧gr y=true∧xs.all gr=true∧xs[j]? =some z∧ua z y=true∧
 (∀(m:Nat) z,m<j→xs[m]? =some z→ua z y=false)∧Q (.int j) H
theorem Gb:GU X "list.index" (Lw X.K):=by
 intro pins s σ H x vs v us Q I rx rv h;obtain ⟨l,xs,y,j,z,rfl,rfl,hH,fy,fs,hz,ez,OC,q⟩:=h;cases rx;obtain ⟨u,rfl,ru⟩:=rv.one;obtain ⟨eD,its,n,r,hl,e⟩:=I.nQ hH;obtain ⟨w,hw,Jz⟩:=r.get hz
 have hj:j<its.toArray.size:=by
  obtain ⟨h1,_⟩:=eO.mp hw;simpa using h1
 have flat:∀(m:Nat) z,xs[m]? =some z→gr z=true:=λm z h=>(List.all_eq_true.mp fs) z (gd h)
 have X6:its.toArray[j]=w:=by
  obtain ⟨h1,h2⟩:=eO.mp hw;simpa using h2
 have bN:=ke
 have Bk:j<xs.length:=by
  obtain ⟨h1,_⟩:=eO.mp hz;exact h1
 refine call_meets F.slot_list_index ⟨_,e,rfl⟩ F.entry_list_index (F.args_list_index_2 _ _) (SeqAt.list_indexAt l its.toArray n none #[] u (nz y) j hj (by omega) ?_ ?_) ⟨e,λw hw=>iw ru fy r fs w (by simpa using hw),?_⟩
 ·rw [X6,tB Jz (flat j z hz)];exact ez
 ·intro m hm OB
  have FV:m<its.length:=by simpa using hm
  obtain ⟨zm,OK⟩:∃zm,xs[m]? =some zm:=⟨_,bA (by omega)⟩
  obtain ⟨wm,X7,rwm⟩:=r.get OK
  have W9:its.toArray[m]=wm:=by
   obtain ⟨h1,h2⟩:=eO.mp X7;simpa using h2
  rw [W9,tB rwm (flat m zm OK)];exact OC m zm OB OK
 ·exact ⟨.int j,H,I.tok _,⟨_,rfl⟩,q⟩
end
mutual
inductive Dp (K:PySem.W.Frag) (H:Hp):V→PyData→Prop
 |bf:Dp K H .bf .none
 |bl (b:Bool):Dp K H (.bl b) (.bool b)
 |int (i:Int):Dp K H (.int i) (.int i)
 |str (x:Str) (h:PyData.strOk x=true):Dp K H (.str x) (.str x)
 |lst {a:Addr} {xs:List V} {ds:List PyData}:cp K H a xs→eG K H xs ds→Dp K H (.ref a) (.list ds)
 |tup {a:Addr} {xs:List V} {ds:List PyData}:fR K H a xs→eG K H xs ds→Dp K H (.ref a) (.tuple ds)
inductive eG (K:PySem.W.Frag) (H:Hp):List V→List PyData→Prop
 |nil:eG K H [] []
 |cons {v:V} {vs:List V} {d:PyData} {ds:List PyData}:Dp K H v d→eG K H vs ds→eG K H (v::vs) (d::ds)
end
section
variable {X:Cx} {pins:List (Addr×Obj)} {σ:St} {H:Hp} {s:Shared}
mutual
theorem Dp.reads(I:Inv X pins σ H s):∀{v:V}{d:PyData}{u:Value},Dp X.K H v d→RelV v u→(∃as,Reads s.heap u d as)∧d.canLay0=true
 |_,_,_, .bf,r=>by cases r;exact ⟨⟨_, .none⟩,rfl⟩
 |_,_,_, .bl b,r=>by cases r;exact ⟨⟨_, .bool b⟩,rfl⟩
 |_,_,_, .int i,r=>by obtain ⟨t,rfl⟩:=r;exact ⟨⟨_, .int i t⟩,rfl⟩
 |_,_,_, .str x h,r=>by obtain ⟨t,rfl⟩:=r;exact ⟨⟨_, .str x t⟩,by simpa [PyData.canLay0] using h⟩
 |_,_,_, .lst h a,r=>by
  cases r;obtain ⟨its,rv,pl,hz⟩:=I.list h;obtain ⟨⟨as,ra⟩,c⟩:=eG.reads I a rv;obtain ⟨o,ho,hc,n,hd⟩:=pl.isList;exact ⟨⟨_, .list ho hc hd (by simpa using ra)⟩,by simpa [PyData.canLay0] using c⟩
 |_,_,_, .tup h a,r=>by
  cases r;obtain ⟨its,rv,pl,hz⟩:=I.tuple h;obtain ⟨⟨as,ra⟩,c⟩:=eG.reads I a rv;obtain ⟨o,ho,hc,n,hd⟩:=pl;exact ⟨⟨_, .tuple ho hc hd (by simpa using ra)⟩,by simpa [PyData.canLay0] using c⟩
theorem eG.reads(I:Inv X pins σ H s):∀{vs:List V}{ds:List PyData}{us:List Value},eG X.K H vs ds→Vals vs us→(∃as,ReadsAll s.heap us ds as)∧PyData.canLayAll0 ds=true
 |_,_,_, .nil, .nil=>⟨⟨_, .nil⟩,by simp [PyData.canLayAll0]⟩
 |_,_,_, .cons a as, .cons r rs=>by
  obtain ⟨⟨x,h1⟩,c1⟩:=Dp.reads I a r;obtain ⟨⟨y,h2⟩,c2⟩:=eG.reads I as rs;exact ⟨⟨_, .cons h1 h2⟩,by simp [PyData.canLayAll0,c1,c2]⟩
end
end
section
variable {X:Cx}
def UG(K:PySem.W.Frag):R2:=λx y H Q=>∃d e,Dp K H x d∧Dp K H y e∧d.depth≤64∧Q (.bl (PyData.eqv d e)) H
def UJ(K:PySem.W.Frag):R2:=λx y H Q=>∃d e,Dp K H x d∧Dp K H y e∧d.depth≤64∧Q (.bl (!PyData.eqv d e)) H
theorem La(hu:X.A.units+64<cLine):OpR X (compareOp .Eq) (UG X.K):=by
 intro pins s σ H x y v u Q I rx ry h;obtain ⟨d,e,hd,he,hz,q⟩:=h;obtain ⟨⟨as,r1⟩,c1⟩:=hd.reads I rx;obtain ⟨⟨bs,r2⟩,c2⟩:=he.reads I ry;exact SeqAt.compareEq_reads r1 r2 c1 c2 (by have:=Nat.min_le_left d.depth e.depth;omega) ⟨.bl _,H,I,rfl,q⟩
theorem Le(hu:X.A.units+64<cLine):OpR X (compareOp .NotEq) (UJ X.K):=by
 intro pins s σ H x y v u Q I rx ry h;obtain ⟨d,e,hd,he,hz,q⟩:=h;obtain ⟨⟨as,r1⟩,c1⟩:=hd.reads I rx;obtain ⟨⟨bs,r2⟩,c2⟩:=he.reads I ry;exact SeqAt.compareNe_reads r1 r2 c1 c2 (by have:=Nat.min_le_left d.depth e.depth;omega) ⟨.bl _,H,I,rfl,q⟩
end
def nD(n:Nat):PyData:= .int n
def kJ(r:List Nat):PyData:= .list (r.map nD)
theorem gF{α:Type}{f:α→PyData}(hf:∀a b,PyData.eqv (f a) (f b)=true↔a=b):∀xs ys:List α,PyData.eqvAll (xs.map f) (ys.map f)=true↔xs=ys
 | [],[]=>by simp [PyData.eqvAll]
 | [],_::_=>by simp [PyData.eqvAll]
 |_::_,[]=>by simp [PyData.eqvAll]
 |a::xs,b::ys=>by
  have ih:=gF hf xs ys;simp [PyData.eqvAll,hf,ih]
theorem Ko(a b:Nat):PyData.eqv (nD a) (nD b)=true↔a=b:=by
 simp [nD,PyData.eqv];omega
theorem qJ(a b:List Nat):PyData.eqv (kJ a) (kJ b)=true↔a=b:=by
 unfold kJ;rw [PyData.eqv];exact gF Ko a b
theorem gx{α:Type}{f:α→PyData}{k:Nat}(hf:∀a,(f a).depth≤k):∀xs:List α,PyData.depthAll (xs.map f)≤k
 | []=>by simp [PyData.depthAll]
 |a::xs=>by
  have:=hf a
  have ih:=gx hf xs;simp [PyData.depthAll];omega
theorem lL(a:List Nat):(kJ a).depth≤2:=by
 unfold kJ;rw [PyData.depth]
 have:=gx (f:=nD) (k:=1) (λn=>by simp [nD,PyData.depth]) a
 omega
def ql(w:List (List Nat)):PyData:= .list (w.map kJ)
theorem wJ(a b:List (List Nat)):PyData.eqv (ql a) (ql b)=true↔a=b:=by
 unfold ql;rw [PyData.eqv];exact gF qJ a b
theorem A3(a:List (List Nat)):(ql a).depth≤3:=by
 unfold ql;rw [PyData.depth]
 have:=gx (f:=kJ) (k:=2) lL a
 omega
end L2
namespace L2
open PySem PySem.Spec PyProof.Rows
theorem Vals.of_get:∀{xs:List V}{us:List Value},xs.length=us.length→(∀(k:Nat) x u,xs[k]? =some x→us[k]? =some u→RelV x u)→Vals xs us
 | [],[],_,_=> .nil
 | [],_::_,h,_=>by simp at h
 |_::_,[],h,_=>by simp at h
 |x::xs,u::us,h,r=> .cons (r 0 x u rfl rfl) (Vals.of_get (by simpa using h) λk y w h1 h2=>r (k+1) y w (by simpa using h1) (by simpa using h2))
section
variable {X:Cx}
theorem yM:dU X (.builtin "isinstance") (λxs H Q=>∃(x:V)(n:String)(t:Value)(b:Bool),xs= [x, .ty n]∧i6 X.K H x t∧PySem.W.kitOne X.K t (.type n)=some b∧Q (.bl b) H):=by
 intro pins s σ H xs us Q I rv h;obtain ⟨x,n,t,b,rfl,ty,e,q⟩:=h;obtain ⟨u1,u2,rfl,r1,r2⟩:=rv.two;cases r2;exact Dc I r1 ty e λtk=>⟨.bl b,H,I.tok _,rfl,q⟩
theorem vT:dU X (.builtin "sorted") (λxs H Q=>∃(p:Addr)(ns:List Int),xs= [.ref p]∧cp X.K H p (ns.map V.int)∧ns.length<64∧∀(q:Addr)(ms:List Int),H q=none→ms.Perm ns→ms.Pairwise (·≤·)→Q (.ref q) (upd H q (.lst (ms.map V.int)))):=by
 intro pins s σ H xs us Q I rv h;obtain ⟨p,ns,rfl,hp,hz,q⟩:=h;obtain ⟨u,rfl,ru⟩:=rv.one;cases ru;obtain ⟨its,r,pl,_⟩:=I.list hp;have hl:=r.length;rw [aK] at hl;refine sorted_ints pl.isList (intsAre_of r) (by omega) λout ms hI uj hs=>?_
 obtain ⟨e,he⟩:=sortedAll_at s.heap its out;have fr:H (s.heap.objs.size+1)=none:=I.hok.fresh (mQ _);have FW:=uj.length_eq;have cz:64≤sizeLine:=by decide
 refine ⟨.ref (s.heap.objs.size+1),_,I.laid (t':=s.toks) (λb o hb=>sortedAll_old hb) (mQ _) (o:= .lst (ms.map V.int)) ⟨by rw [aK];omega,out.toList,e,kE hI,by simpa using he⟩,rfl,q _ ms fr uj hs⟩
end
theorem tU(elt t0 i0 t1 i1:Expr)(f0 f1:List Expr)(scope:Scope)(pos:Pos)(it acc:Value)(env:Env):
  compTurn (.ListComp elt [⟨t0,i0,f0,0⟩,⟨t1,i1,f1,0⟩] scope pos) 0 it acc env=(do
   standAt i0.pos
   match ←pyNext it with
   |none=>pure (.done .next)
   |some v=>
    letOwnedTupleGo t0 it v
    assign t0 env v
    let ok ←forIn f0 true λc r=>if r=true then do let ok ←isTrue c env (eval c env);pure (ForInStep.yield ok) else pure (ForInStep.yield r)
    if ok=true then
     let x ←eval i1 env
     standAt i1.pos
     let x ←foldedSetIterable i1 env x
     let Bv ←holding [x] (pyIter x)
     let _ ←runOwn (.compStart (.ListComp elt [⟨t0,i0,f0,0⟩,⟨t1,i1,f1,0⟩] scope pos) 1 Bv acc env) env
     again (.compLoop (.ListComp elt [⟨t0,i0,f0,0⟩,⟨t1,i1,f1,0⟩] scope pos) 0 it acc env)
    else again (.compLoop (.ListComp elt [⟨t0,i0,f0,0⟩,⟨t1,i1,f1,0⟩] scope pos) 0 it acc env)):=by rfl
theorem tV(elt t0 i0 t1 i1:Expr)(f0 f1:List Expr)(scope:Scope)(pos:Pos)(it acc:Value)(env:Env):
  compTurn (.ListComp elt [⟨t0,i0,f0,0⟩,⟨t1,i1,f1,0⟩] scope pos) 1 it acc env=(do
   standAt i1.pos
   match ←pyNext it with
   |none=>pure (.done .next)
   |some v=>
    letOwnedTupleGo t1 it v
    assign t1 env v
    let ok ←forIn f1 true λc r=>if r=true then do let ok ←isTrue c env (eval c env);pure (ForInStep.yield ok) else pure (ForInStep.yield r)
    if ok=true then
     (do let _ ←call (.builtin "list.append") [acc,←eval elt env])
     again (.compLoop (.ListComp elt [⟨t0,i0,f0,0⟩,⟨t1,i1,f1,0⟩] scope pos) 1 it acc env)
    else again (.compLoop (.ListComp elt [⟨t0,i0,f0,0⟩,⟨t1,i1,f1,0⟩] scope pos) 1 it acc env)):=by rfl
section
variable {X XC:Cx} {elt i0 t0 i1 t1:Expr} {f0 f1:List Expr} {scope:Scope} {pos:Pos} {wi cH:TI} {g g1:TG} {tt cg:TT} {te:TE} {src:List (Option Nat)} {NC:List Str}
theorem sL{it acc:Value}{env:Env}{R:Result→Shared→Prop}{s:Shared}{A:Around}
  (h0:codeAny (model X.prog X.w) A (.compLoop (.ListComp elt [⟨t0,i0,f0,0⟩,⟨t1,i1,f1,0⟩] scope pos) 1 it acc env) R s)
  (hp:∀(Q:Value→Shared→Prop)(E:Value→Shared→Prop),Q it s→wpAny (model X.prog X.w) A (pyIter it) Q E s):
  codeAny (model X.prog X.w) A (.compStart (.ListComp elt [⟨t0,i0,f0,0⟩,⟨t1,i1,f1,0⟩] scope pos) 1 it acc env) R s:=by
 refine codeAny_of_tree ?_;show wpAny _ _ ((compStart (.ListComp elt [⟨t0,i0,f0,0⟩,⟨t1,i1,f1,0⟩] scope pos) 1 it acc env).onRaise (λx=>do noteFrame x env;standAt theWindowsPlace)) _ _ s
 refine wpAny_notedAt ?_;unfold compStart;show wpAny _ _ (ask>>=_) _ _ s;refine wpAny_bind (wpAny_askSetting (wpAny_ite ?_))
 split
 ·first
   |exact wpAny_bind (wpAny_pure (wpAny_pure ⟨rfl,h0⟩))
   |exact wpAny_pure ⟨rfl,h0⟩
 ·refine wpAny_bind (wpAny_rule ?_)
  show wpAny _ _ (standAt i1.pos>>=_) _ _ s;exact wpAny_bind (wpAny_standAt (wpAny_bind (hp _ _ (wpAny_pure ⟨rfl,h0⟩))))
theorem AX{pins:List (Addr×Obj)}{s:Shared}{σ:St}{H:Hp}{it D:Addr}{fp:List Addr}{tn:Nat→Heap→Prop}{J:It}{R:Result→Shared→Prop}{N:St→Hp→Prop}
  (KA:XC.xe=λ_ _=>False) (hc:XC.calm=true) (I:Inv XC pins σ H s) (T:Turn XC.prog XC.w XC.K t1 J fp it tn) (st:tn 0 s.heap) (f2:∀b∈fp,e7 XC pins H b)
  (hg:PG XC t1 g1) (ht:lE XC f1 cg) (he:PE XC elt te)
  (hW:∃W:Nat→Nat→St→Hp→Prop,(∃m,W 0 m σ H)∧∀i m dY H2,W i m dY H2→(J.stop i H2∧N dY H2)∨
   (J.go i H2∧∃N1:St→Hp→Prop,(∀aw H',N1 aw H'→∃m',m'<m∧W (i+1) m' aw H')∧∀x H3,J.yld i H2 x H3→g1 x dY H3 λeF H4=>cg eF H4 λb H5=>
    if b=true then te eF H5 λv H6=>∃ys,H6 D=some (.lst ys)∧ys.length<sizeLine∧N1 eF (upd H6 D (.lst (ys++ [v]))) else N1 eF H5))
  (hR:∀aw H' s',Inv XC pins aw H' s'→N aw H'→R (.ok .next) s'):
  codeAny (model XC.prog XC.w) XC.A (.compStart (.ListComp elt [⟨t0,i0,f0,0⟩,⟨t1,i1,f1,0⟩] scope pos) 1 (.ref it) (.ref D) XC.env) R s:=by
 obtain ⟨W,⟨m0,w0⟩,turn⟩:=hW
 have jq:∀{α:Type}{t:Sem α}{Q:α→Shared→Prop}{E:Value→Shared→Prop}{s:Shared},wpAny (model XC.prog XC.w) XC.A t Q XC.xe s→wpAny (model XC.prog XC.w) XC.A t Q E s:=λ {α t Q E s} h=>
  wpAny_mono h (λ_ _ q=>q) λ_ _ f=>by rw [KA] at f;exact f.elim
 have stat:∀{H':Hp},(∀b∈fp,H' b=none)→∀b∈fp,e7 XC pins H' b:=λhn b hb=>⟨hn b hb,(f2 b hb).2⟩
 have loop:codeAny (model XC.prog XC.w) XC.A (.compLoop (.ListComp elt [⟨t0,i0,f0,0⟩,⟨t1,i1,f1,0⟩] scope pos) 1 (.ref it) (.ref D) XC.env) R s:=by
  refine codeAny_loop rfl (λn s'=>∃i aw H',Inv XC pins aw H' s'∧tn i s'.heap∧(∀b∈fp,H' b=none)∧W i n aw H') (λn s' hI=>?_) m0 ⟨0,σ,H,I,st,λb hb=>(f2 b hb).1,w0⟩;obtain ⟨i,aw,H',I5,sV,vX,w5⟩:=hI;show wpAny _ XC.A ((compTurn (.ListComp elt [⟨t0,i0,f0,0⟩,⟨t1,i1,f1,0⟩] scope pos) 1 (.ref it) (.ref D) XC.env).onRaise (λx=>do noteFrame x XC.env;theTreesLotGoes x)) _ _ s'
  refine wpAny_noted ?_;rw [tV];refine wpAny_bind (wpAny_standAt (wpAny_bind ?_))
  rcases turn i n aw H' w5 with ⟨stop,qn⟩ | ⟨go,N1,hN,step⟩
  ·refine thn (T.done XC rfl rfl rfl hc i pins s' aw H' _ I5 (stat vX) sV stop) λr s6 ⟨hr,I6⟩=>?_
   subst hr;exact wpAny_pure (hR aw H' s6 I6 qn)
  ·refine thn (T.item XC rfl rfl rfl hc i pins s' aw H' _ I5 (stat vX) sV go) λr s6 ⟨u,hr,h6⟩=>?_
   subst hr;refine wpAny_bind (thn h6 λ_ s7 ⟨x,H7,I7,r7,y7,u6,HK⟩=>?_);have GP:=I7.pinned (stat HK) (T.obj _ _ u6)
   have nextT:∀{fO:St}{H8:Hp}{s8:Shared},Inv XC (pins++kr fp s7.heap) fO H8 s8→N1 fO H8→∃m,m<n∧∃i aw H',Inv XC pins aw H' s8∧tn i s8.heap∧(∀b∈fp,H' b=none)∧W i m aw H':=λ {fO H8 s8} I8 n8=>by
    obtain ⟨m',hm,w8⟩:=hN fO H8 n8;refine ⟨m',hm,i+1,fO,H8,I8.iA,T.keep _ _ _ u6 λb hb o e=>(I8.pin (b,o) (fE _ (fE _ (dB hb e)))).1,λb hb=>?_,w8⟩;obtain ⟨o,e,d⟩:=T.obj _ _ u6 b hb;exact (I8.pin (b,o) (fE _ (fE _ (dB hb e)))).2.1
   refine wpAny_bind (jq (thn (hg _ s7 aw H7 x u _ GP r7 (step x H7 y7)) λ_ s8 ⟨fO,H8,I8,q8⟩=>?_));refine wpAny_bind (jq (thn (ht _ s8 fO H8 _ I8 q8) λb s9 ⟨H9,I9,q9⟩=>?_));cases b with
   |false=>
    rw [if_neg cN] at q9;exact wpAny_pure ⟨rfl,nextT I9 q9⟩
   |true=>
    rw [if_pos rfl] at q9;refine wpAny_bind (wpAny_bind (jq (thn (he _ s9 fO H9 _ I9 q9) λy Ly ⟨v,GL,M3,Pg,ys,hD,hz,Pe⟩=>?_)));refine wpAny_bind (jq (thn (oN _ Ly fO GL (.ref D) [v] _ [y] (λ_ H'=>N1 fO H') M3 rfl (.cons Pg .nil) ⟨_,ys,v,rfl,rfl,hD,hz,Pe⟩) λ_ Lz ⟨_,J4,GN,_,Pf⟩=>?_));exact wpAny_pure (wpAny_pure ⟨rfl,nextT GN Pf⟩)
 exact sL (X:=XC) loop λQ E q=>T.self _ 0 _ _ _ st q
def tIn(g1:TG)(cg:TT)(te:TE)(D:Addr)(J:It)(N:St→Hp→Prop):St→Hp→Prop:=λσ H=>
 ∃W:Nat→Nat→St→Hp→Prop,(∃m,W 0 m σ H)∧∀i m dY H2,W i m dY H2→(J.stop i H2∧N dY H2)∨
  (J.go i H2∧∃N1:St→Hp→Prop,(∀aw H',N1 aw H'→∃m',m'<m∧W (i+1) m' aw H')∧∀x H3,J.yld i H2 x H3→g1 x dY H3 λeF H4=>cg eF H4 λb H5=>
   if b=true then te eF H5 λv H6=>∃ys,H6 D=some (.lst ys)∧ys.length<sizeLine∧N1 eF (upd H6 D (.lst (ys++ [v]))) else N1 eF H5)
def MW(g:TG)(tt:TT)(cH:TI)(g1:TG)(cg:TT)(te:TE)(D:Addr)(J:It)(Q:VK)(σ:St)(H:Hp):Prop:=
 ∃W:Nat→Nat→St→Hp→Prop,(∃m,W 0 m σ H)∧∀i m dY H2,W i m dY H2→
  (J.stop i H2∧Q (.ref D) H2)∨
  (J.go i H2∧∃N:St→Hp→Prop,(∀aw H',N aw H'→∃m',m'<m∧W (i+1) m' aw H')∧∀x H3,J.yld i H2 x H3→g x dY H3 λeF H4=>tt eF H4 λb H5=>
   if b=true then cH eF H5 λJ1 H6=>tIn g1 cg te D J1 N eF H6 else N eF H5)
def JQ(wi:TI)(g:TG)(tt:TT)(cH:TI)(g1:TG)(cg:TT)(te:TE)(src:List (Option Nat)):TE:=λσ H Q=>wi σ H λJ H1=>∀D,H1 D=none→MW g tt cH g1 cg te D J Q (kO src σ) (upd H1 D (.lst []))
end
end L2
namespace KS
open PySem PySem.W PyProof.Rows
section
variable {prog:Program} {w:World} {A:Around} {E:Value→Shared→Prop} {s:Shared}
theorem B2{a:Addr}{vs:List Value}{n:Nat}{G:PySem.Fin→Shared→Prop}(ho:s.heap.get? a=some (seqObj "list" vs.toArray n))(h2:vs.length<2)
  (h:G (.done (.ret .none)) {s with heap:=sortedHeap s.heap a vs vs.toArray}):wpAny (model prog w) A (Builtin.«list.sort» ⟨[.ref a],[]⟩) G E s:=by
 rw [list_sort_plain];have la:a<s.heap.objs.size:=Heap.lt_size ho;refine wpAny_bind (listItems_at ho rfl (wpAny_bind (listUpdate_at ho rfl ?_)));obtain ⟨e1,lh⟩:∃k,(s.heap.update a (Obj.mapSeq λ_=> #[])).get? a=some (seqObj "list" #[] k):=⟨_,get?_update_seq ho (λ_=> #[])⟩;refine wpAny_bind (seqEpoch_at lh rfl (wpAny_bind (wpAny_newTuple (wpAny_bind (wpAny_newList (wpAny_holding ?_))))));have C3:(((s.heap.update a (Obj.mapSeq λ_=> #[])).push (seqObj "tuple" vs.toArray 0)).push (seqObj "list" #[] 0)).get? a=some (seqObj "list" #[] e1):=Heap.get?_push_of_some _ (Heap.get?_push_of_some _ lh);show wpAny (model prog w) A _ G E {s with heap:=((s.heap.update a (Obj.mapSeq λ_=> #[])).push (seqObj "tuple" vs.toArray 0)).push (seqObj "list" #[] 0)}
 dsimp only;have lz:vs.toArray.size<2:=by simpa using h2
 rw [if_pos lz,if_pos lz];refine wpAny_bind (wpAny_pure ?_);rw [StateT.run_pure];refine wpAny_bind (wpAny_pure ?_);dsimp only
 have ez:(arrOf (SortSt.mk' general' (vs.toArray.zip vs.toArray) #[] 7 none)).map (·.2)=vs.toArray:=by
  show (vs.toArray.zip vs.toArray).map (·.2)=vs.toArray;apply Array.toList_inj.mp;simp [List.map_snd_zip]
 refine wpAny_bind (seqEpoch_at C3 rfl (wpAny_bind (listUpdate_at C3 rfl ?_ (hsz2:=by rw [ez];rw [sizeLine_eq];omega))))
 simp only [bne_self_eq_false,kQ,if_false];have h':=h;unfold sortedHeap at h';rw [ez];exact wpAny_pure h'
theorem wg{l:Addr}{vs:List Value}{G:Value→Shared→Prop}(hl:s.heap.IsList l vs.toArray)(h2:vs.length<2)(h:G (.ref (s.heap.objs.size+1)) {s with heap:=sortedAll s.heap vs vs.toArray}):
  wpAny (model prog w) A (call (.builtin "sorted") [.ref l]) G E s:=by
 refine Calls.call_function_entry kind_sorted plain_sorted entry_sorted (args_sorted1 (.ref l)) ?_;unfold Builtin.«sorted»;have l2:vs.length≤sizeLine:=by rw [sizeLine_eq];omega
 refine wpAny_bind (m:=checkCount "sorted" 1 1 _) (wpAny_pure (wpAny_bind (collect_list hl (wpAny_bind (wpAny_newList ?_ l2)) l2)));have z1:((s.heap.push (seqObj "list" #[] 0)).update s.heap.objs.size (Obj.mapSeq (·++vs.toArray))).objs.size=s.heap.objs.size+1:=by rw [Heap.size_update,size_push']
 have z2:(((s.heap.push (seqObj "list" #[] 0)).update s.heap.objs.size (Obj.mapSeq (·++vs.toArray))).push (seqObj "list" vs.toArray 0)).get? (s.heap.objs.size+1)=some (seqObj "list" vs.toArray 0):=by
  rw [←z1];exact Heap.get?_push_size _ rfl
 show wpAny (model prog w) _ _ _ E {s with heap:=((s.heap.push (seqObj "list" #[] 0)).update s.heap.objs.size (Obj.mapSeq (·++vs.toArray))).push (seqObj "list" vs.toArray 0)}
 rw [z1];exact wpAny_bind (wpAny_holding (wpAny_call_entry slot_list_sort ⟨_,z2,rfl⟩ entry_list_sort (B2 z2 h2 ⟨_,rfl,wpAny_pure ⟨_,rfl,h⟩⟩) (args_list_sort _)))
end
end KS
namespace L2
open PySem PySem.Spec PyProof.Rows
section
variable {X:Cx} {pins:List (Addr×Obj)} {σ:St} {H:Hp} {s:Shared} {h':Heap}
end
def q0(k:Nat×Nat):List V:= [.int (k.1:Nat), .int (k.2:Nat)]
def Cs(H:Hp)(L:List (Addr×(Nat×Nat))):Prop:=∀p∈L,H p.1=some (.tup (q0 p.2))
def iK(a b:Nat×Nat):Bool:=if a.1=b.1 then decide (a.2<b.2) else decide (a.1<b.1)
theorem qS(x y:Nat×Nat):iK x y=true↔x.1<y.1∨(x.1=y.1∧x.2<y.2):=by
 unfold iK
 by_cases e:x.1=y.1
 ·rw [if_pos e,decide_eq_true_iff]
  omega
 ·rw [if_neg e,decide_eq_true_iff]
  omega
theorem F4(x y z:Nat×Nat)(h:iK x z=true):iK x y=true∨iK y z=true:=by
 rw [qS] at*;rw [qS];omega
theorem Iw(x y z:Nat×Nat)(h:iK x y=true)(h':iK y z=true):iK x z=true:=by
 rw [qS] at*;omega
theorem uu{a b:Nat×Nat}(h:iK b a=false):Wb.lexLe a b:=by
 unfold iK at h;unfold Wb.lexLe
 by_cases e:b.1=a.1
 ·rw [if_pos e] at h
  have:=of_decide_eq_false h
  right;omega
 ·rw [if_neg e] at h
  have:=of_decide_eq_false h
  left;omega
theorem KN{prog:Program}{w:World}{A:Around}{E:Value→Shared→Prop}{s:Shared}{x y:Addr}{a1 a2 b1 b2:Int}{t1 t2 u1 u2:Tok}{C:Bool→Shared→Prop}
  (hx:IsTup s.heap x [.int a1 t1, .int a2 t2].toArray) (hy:IsTup s.heap y [.int b1 u1, .int b2 u2].toArray)
  (h:C (if a1=b1 then decide (a2<b2) else decide (a1<b1)) s):wpAny (model prog w) A (keyLt' (tuples' true) (.ref x) (.ref y)) C E s:=by
 obtain ⟨ox,XW,_,nx,dx⟩:=hx;obtain ⟨oy,XX,_,ny,dy⟩:=hy;refine PySem.W.kat_lt XW dx XX dy ?_;refine PySem.W.kat_cons (SeqAt.EqAt.int_int a1 t1 b1 u1 prog w _ _ ?_)
 by_cases e1:a1=b1
 ·rw [if_pos e1] at h
  rw [show (a1==b1)=true by simpa using e1]
  refine PySem.W.kat_yes (PySem.W.kat_cons (SeqAt.EqAt.int_int a2 t2 b2 u2 prog w _ _ ?_))
  by_cases e2:a2=b2
  ·rw [show (a2==b2)=true by simpa using e2]
   refine PySem.W.kat_yes (PySem.W.kat_nil ?_);rw [show decide (a2<b2)=false by simp;omega] at h
   simpa using h
  ·rw [show (a2==b2)=false by simpa using e2]
   refine PySem.W.kat_no (PySem.W.kat_one _ _ ?_);exact lt_int h
 ·rw [if_neg e1] at h
  rw [show (a1==b1)=false by simpa using e1]
  exact PySem.W.kat_no (oneLt_int h)
section
variable {X:Cx}
theorem u9:∀{as:List Addr}{us:List Value},Vals (as.map V.ref) us→us=as.map Value.ref
 | [],_, .nil=>rfl
 |a::as,_, .cons r t=>by cases r;rw [u9 t];rfl
theorem uR:∀as:List Addr,Vals (as.map V.ref) (as.map Value.ref)
 | []=> .nil
 |a::as=> .cons rfl (uR as)
theorem Gi{pins:List (Addr×Obj)}{σ:St}{H:Hp}{s:Shared}{a:Addr}{k:Nat×Nat}(I:Inv X pins σ H s)(h:H a=some (.tup (q0 k))):
  ∃t u,IsTup s.heap a [.int (k.1:Nat) t, .int (k.2:Nat) u].toArray:=by
 obtain ⟨its,r,p,_⟩:=I.tuple (fR.of h);obtain ⟨u1,u2,rfl,⟨t,rfl⟩,⟨u,rfl⟩⟩:=Vals.two r;exact ⟨t,u,p⟩
end
end L2
set_option maxHeartbeats 4000000
namespace L2
open PySem
theorem bY.of{X:Cx}{scope:Scope}(sc:Scope)(e:X.env.scope=sc)(k:scope.kind= .function)(a:∀x∈scope.names,x.2= .local→scope.names.lookup x.1=some .local)(b:∀x∈scope.names,x.2≠ .cell)
  (c:∀x∈scope.names,x.2= .free→sc.names.lookup x.1=some .cell∨sc.names.lookup x.1=some .free):bY X scope:=⟨k,a,b,λx hx hf=>by rw [←e] at c;exact c x hx hf⟩
structure fQ (K:PySem.W.Frag) (mg:Str→Option Value) (x:Str) (st:Stmt) (ps:List Str) where
 f:Addr
 fd:FuncData
 F:vO K x x st f fd
 b:Binds K fd ps []
 m:mg x=some (.ref f)
theorem aQ{H:Hp}{p:Addr}(h:H p=none)(o:HO):aH H (upd H p o):=λb u q=>by rw [aF (aW q h)];exact q
theorem small{n:Nat}(h:n≤1000):n≤sizeLine:=mK (kB h)
end L2
namespace TS
open PySem PyProof.Rows
def dM:Bool→Keyed→Array Keyed→Nat→Nat→Nat→StateT SortSt Sem (Option Nat):=sortPriv%PySem.Builtin.gallop
def m7:Array Keyed→Array Keyed→StateT SortSt Sem (Array Keyed):=sortPriv%PySem.Builtin.mergeLo
def m6:Array Keyed→Array Keyed→StateT SortSt Sem (Array Keyed):=sortPriv%PySem.Builtin.mergeHi
def setMinGallop':Nat→StateT SortSt Sem Unit:=sortPriv%PySem.Builtin.setMinGallop
def iE(left:Bool)(key:Keyed)(arr:Array Keyed)(base i:Nat):StateT SortSt Sem (Option Bool):=do
 let x ←elem' arr (base+i)
 if left then lt' x key else return (←lt' key x).map (!·)
theorem Bf(left:Bool)(key:Keyed)(arr:Array Keyed)(base n hint:Nat):dM left key arr base n hint=(do
 let mut lastofs:=0
 let mut ofs:=1
 let mut lo:=0
 let mut hi:=0
 let some right ←iE left key arr base hint|return none
 if right then
  let pT:=n-hint
  for _ in [0:n] do
   if ofs≥pT then break
   let some more ←iE left key arr base (hint+ofs) |return none
   if !more then break
   lastofs:=ofs
   ofs:=2*ofs+1
  lo:=hint+lastofs+1
  hi:=hint+min ofs pT
 else
  let pT:=hint+1
  for _ in [0:n] do
   if ofs≥pT then break
   let some found ←iE left key arr base (hint-ofs) |return none
   if found then break
   lastofs:=ofs
   ofs:=2*ofs+1
  lo:=hint+1-min ofs pT
  hi:=hint-lastofs
 for _ in [0:n] do
  if lo≥hi then break
  let m:=lo+(hi-lo) / 2
  let some more ←iE left key arr base m|return none
  if more then lo:=m+1 else hi:=m
 return some hi):=rfl
def fM(O:KeyOrd)(key:Keyed→O.α)(S:Keyed→Prop)(k0:SortKind)(M:Model)(A:Around)(E:Value→Shared→Prop)(s:Shared):Prop:=
 ∀(x y:Keyed)(st:SortSt)(Q:Option Bool→SortSt→Prop),S x→S y→kindOf st=k0→Q (some (O.blt (key x) (key y))) st→wpS M A E s (lt' x y) Q st
section
variable {O:KeyOrd} {key:Keyed→O.α} {S:Keyed→Prop} {k0:SortKind} {M:Model} {A:Around} {E:Value→Shared→Prop} {s:Shared} {st:SortSt}
def cW(O:KeyOrd)(key:Keyed→O.α)(left:Bool)(k x:Keyed):Bool:=if left then O.blt (key x) (key k) else !O.blt (key k) (key x)
theorem bh{arr:Array Keyed}{i:Nat}{x:Keyed}{Q:Keyed→SortSt→Prop}(h:arr[i]? =some x)(q:Q x st):wpS M A E s (elem' arr i) Q st:=by
 rw [elem'_eq,h];exact wpS_pure q
theorem jh(C:fM O key S k0 M A E s){left:Bool}{k x:Keyed}{arr:Array Keyed}{base i:Nat}{Q:Option Bool→SortSt→Prop}(hx:arr[base+i]? =some x)(sk:S k)(sx:S x)(hk:kindOf st=k0)
  (q:Q (some (cW O key left k x)) st):wpS M A E s (iE left k arr base i) Q st:=by
 unfold iE;refine wpS_bind (bh hx ?_);unfold cW at q;cases left with
 |true=>exact C _ _ _ _ sx sk hk q
 |false=>exact wpS_bind (C _ _ _ _ sk sx hk (wpS_pure q))
structure Seg (S:Keyed→Prop) (arr:Array Keyed) (base n:Nat) (g:Nat→Keyed):Prop where
 at_:∀i,i<n→arr[base+i]? =some (g i)
 mem:∀i,i<n→S (g i)
theorem fJ(C:fM O key S k0 M A E s){left:Bool}{k:Keyed}{arr:Array Keyed}{base n hint:Nat}{g:Nat→Keyed}{Q:Option Nat→SortSt→Prop}(G:Seg S arr base n g)(sk:S k)(hk:kindOf st=k0)(hh:hint<n)
  (mono:∀i j,i≤j→j<n→cW O key left k (g j)=true→cW O key left k (g i)=true)
  (q:∀p,p≤n→(∀i,i<p→cW O key left k (g i)=true)→(∀i,p≤i→i<n→cW O key left k (g i)=false)→Q (some p) st):wpS M A E s (dM left k arr base n hint) Q st:=by
 rw [Bf];refine wpS_bind (jh C (G.at_ _ hh) sk (G.mem _ hh) hk ?_)
 have Du:∀i j,i≤j→j<n→cW O key left k (g i)=false→cW O key left k (g j)=false:=λi j cy hj h=>by
  cases e:cW O key left k (g j) with
  |false=>rfl
  |true=>rw [mono i j cy hj e] at h;cases h
 have fin:∀lo hi,lo≤hi→hi≤n→(∀i,i<lo→cW O key left k (g i)=true)→(∀i,hi≤i→i<n→cW O key left k (g i)=false)→
   wpS M A E s (do
    let mut lo:=lo
    let mut hi:=hi
    for _ in [0:n] do
     if lo≥hi then break
     let m:=lo+(hi-lo) / 2
     let some more ←iE left k arr base m|return none
     if more then lo:=m+1 else hi:=m
    return some hi) Q st:=by
  intro lo hi hle hn h1 h2;dsimp only
  refine wpS_bind (wpS_mono (wpS_forRange (I:=λx c ai=>ai=st∧∃lo hi,c=(none,lo,hi)∧lo≤hi∧hi≤n∧hi-lo≤n-x∧(∀i,i<lo→cW O key left k (g i)=true)∧(∀i,hi≤i→i<n→cW O key left k (g i)=false))
   (Q:=λc ai=>ai=st∧∃hi,c=(none,hi,hi)∧hi≤n∧(∀i,i<hi→cW O key left k (g i)=true)∧(∀i,hi≤i→i<n→cW O key left k (g i)=false)) ?step ?fin ⟨rfl,lo,hi,rfl,hle,hn,by omega,h1,h2⟩) ?post)
  case fin=>
   rintro c ai ⟨rfl,lo,hi,rfl,a1,a2,a3,a4,a5⟩
   have:lo=hi:=by omega
   subst this;exact ⟨rfl,lo,rfl,a2,a4,a5⟩
  case step=>
   rintro x c ai _ hx ⟨rfl,lo,hi,rfl,a1,a2,a3,a4,a5⟩;dsimp only
   by_cases lT:lo≥hi
   ·rw [if_pos lT]
    have:lo=hi:=by omega
    subst this;exact wpS_pure ⟨rfl,lo,rfl,a2,a4,a5⟩
   ·rw [if_neg lT]
    have hm:lo+(hi-lo) / 2<n:=by omega
    refine wpS_bind (jh C (G.at_ _ hm) sk (G.mem _ hm) hk ?_);cases e:cW O key left k (g (lo+(hi-lo) / 2)) with
    |true=>
     dsimp only;rw [if_pos rfl];exact wpS_pure ⟨rfl,_,_,rfl,by omega,a2,by omega,λi hi=>mono _ _ (by omega) hm e,a5⟩
    |false=>
     dsimp only;rw [if_neg (by decide)]
     exact wpS_pure ⟨rfl,_,_,rfl,by omega,by omega,by omega,a4,λi h1 h2=>Du _ _ h1 h2 e⟩
  case post=>
   rintro c ai ⟨rfl,hi,rfl,b1,b2,b3⟩;exact wpS_pure (q _ b1 b2 b3)
 dsimp only;cases e0:cW O key left k (g hint) with
 |true=>
  rw [if_pos rfl]
  refine wpS_bind (wpS_mono (wpS_forRange (I:=λx c ai=>ai=st∧∃la o,c=(none,la,o)∧la<o∧x<o∧hint+la<n∧cW O key left k (g (hint+la))=true)
   (Q:=λc ai=>ai=st∧∃la o,c=(none,la,o)∧la<o∧hint+la<n∧cW O key left k (g (hint+la))=true∧(n-hint≤o∨(hint+o<n∧cW O key left k (g (hint+o))=false))) ?step ?fin2 ⟨rfl,0,1,rfl,by omega,by omega,by omega,e0⟩) ?post)
  case fin2=>
   rintro c ai ⟨rfl,la,o,rfl,a1,a2,a3,a4⟩;exact ⟨rfl,la,o,rfl,a1,a3,a4, .inl (by omega)⟩
  case step=>
   rintro x c ai _ hx ⟨rfl,la,o,rfl,a1,a2,a3,a4⟩;dsimp only
   by_cases lT:o≥n-hint
   ·rw [if_pos lT]
    exact wpS_pure ⟨rfl,la,o,rfl,a1,a3,a4, .inl lT⟩
   ·rw [if_neg lT]
    have hm:hint+o<n:=by omega
    refine wpS_bind (jh C (G.at_ _ hm) sk (G.mem _ hm) hk ?_);cases e:cW O key left k (g (hint+o)) with
    |true=>
     dsimp only;rw [if_neg (by decide)]
     exact wpS_pure ⟨rfl,_,_,rfl,by omega,by omega,hm,e⟩
    |false=>
     dsimp only;rw [if_pos (by decide)]
     exact wpS_pure ⟨rfl,la,o,rfl,a1,a3,a4, .inr ⟨hm,e⟩⟩
  case post=>
   rintro c ai ⟨rfl,la,o,rfl,b1,b2,b3,b4⟩;refine fin (hint+la+1) (hint+min o (n-hint)) (by omega) (by omega) (λi hi=>mono _ _ (by omega) b2 b3) (λi h1 h2=>?_)
   rcases b4 with b4| ⟨b4,b5⟩
   ·omega
   ·exact Du _ _ (by omega) h2 b5
 |false=>
  rw [if_neg (by decide)]
  refine wpS_bind (wpS_mono (wpS_forRange (I:=λx c ai=>ai=st∧∃la o,c=(none,la,o)∧la<o∧x<o∧la≤hint∧cW O key left k (g (hint-la))=false)
   (Q:=λc ai=>ai=st∧∃la o,c=(none,la,o)∧la<o∧la≤hint∧cW O key left k (g (hint-la))=false∧(hint+1≤o∨(o≤hint∧cW O key left k (g (hint-o))=true))) ?step ?fin2 ⟨rfl,0,1,rfl,by omega,by omega,by omega,e0⟩) ?post)
  case fin2=>
   rintro c ai ⟨rfl,la,o,rfl,a1,a2,a3,a4⟩;exact ⟨rfl,la,o,rfl,a1,a3,a4, .inl (by omega)⟩
  case step=>
   rintro x c ai _ hx ⟨rfl,la,o,rfl,a1,a2,a3,a4⟩;dsimp only
   by_cases lT:o≥hint+1
   ·rw [if_pos lT]
    exact wpS_pure ⟨rfl,la,o,rfl,a1,a3,a4, .inl lT⟩
   ·rw [if_neg lT]
    have hm:hint-o<n:=by omega
    refine wpS_bind (jh C (G.at_ _ hm) sk (G.mem _ hm) hk ?_);cases e:cW O key left k (g (hint-o)) with
    |true=>
     dsimp only;rw [if_pos rfl];exact wpS_pure ⟨rfl,la,o,rfl,a1,a3,a4, .inr ⟨by omega,e⟩⟩
    |false=>
     dsimp only;rw [if_neg (by decide)]
     exact wpS_pure ⟨rfl,_,_,rfl,by omega,by omega,by omega,e⟩
  case post=>
   rintro c ai ⟨rfl,la,o,rfl,b1,b2,b3,b4⟩;refine fin (hint+1-min o (hint+1)) (hint-la) (by omega) (by omega) (λi hi=>?_) (λi h1 h2=>Du _ _ h1 h2 b3)
   rcases b4 with b4| ⟨b4,b5⟩
   ·omega
   ·exact mono _ _ (by omega) (by omega) b5
end
section
variable {O:KeyOrd} {key:Keyed→O.α} {S:Keyed→Prop} {k0:SortKind} {M:Model} {A:Around} {E:Value→Shared→Prop} {s:Shared} {st bB:SortSt}
def ky(O:KeyOrd)(key:Keyed→O.α)(xs:Array Keyed)(i:Nat):O.α:=key (xs[i]?.getD (.none, .none))
theorem gu{xs ys:Array Keyed}{i j:Nat}(h:xs[i]? =ys[j]?):ky O key xs i=ky O key ys j:=by unfold ky;rw [h]
def hZ(O:KeyOrd)(key:Keyed→O.α)(xs:Array Keyed)(a b:Nat):Prop:=∀i j,a≤i→i≤j→j<b→O.kle (ky O key xs i) (ky O key xs j)
def Fw(O:KeyOrd)(key:Keyed→O.α)(xs:Array Keyed)(a b:Nat):Prop:=∀i j,a≤i→i≤j→j<b→O.kle (ky O key xs j) (ky O key xs i)
structure fN (bB st:SortSt) (lo hi:Nat):Prop where
 perm:(arrOf st).Perm (arrOf bB)
 kind:kindOf st=kindOf bB
 failed:failedOf st=failedOf bB
 pend:pendingOf st=pendingOf bB
 out:∀i,i<lo∨hi≤i→(arrOf st)[i]? =(arrOf bB)[i]?
theorem fN.refl(st:SortSt)(lo hi:Nat):fN st st lo hi:=⟨.refl _,rfl,rfl,rfl,λ_ _=>rfl⟩
theorem fN.trans{zT jA:SortSt}{lo hi:Nat}(a:fN bB zT lo hi)(b:fN zT jA lo hi):fN bB jA lo hi:=
 ⟨b.perm.trans a.perm,b.kind.trans a.kind,b.failed.trans a.failed,b.pend.trans a.pend,λi h=>(b.out i h).trans (a.out i h)⟩
theorem fN.size{lo hi:Nat}(a:fN bB st lo hi):(arrOf st).size=(arrOf bB).size:=a.perm.size_eq
theorem fN.mirror{lo hi i j:Nat}(h7:lo≤i)(hj:j≤hi)(hs:j≤(arrOf st).size):fN st (setArr st (mirror (arrOf st) i j ((j-i) / 2))) lo hi:=
 ⟨mirror_perm _ _ _ _,rfl,rfl,rfl,λk h=>by
  show (PyProof.Rows.mirror (arrOf st) i j ((j-i) / 2))[k]? =_;rw [getElem?_mirror_all hs,if_neg (by omega)]⟩
theorem fN.bubble{lo hi src d:Nat}(hd:d≤src)(h1:lo≤src-d)(h2:src<hi)(hs:src<(arrOf st).size):fN st (setArr st (bubble (arrOf st) src d)) lo hi:=
 ⟨bubble_perm _ _ _,rfl,rfl,rfl,λk h=>by
  show (PyProof.Rows.bubble (arrOf st) src d)[k]? =_;rw [getElem?_bubble hs d hd,if_neg (by omega),if_neg (by omega)]⟩
theorem oH{xs:Array Keyed}{i j:Nat}(hj:j≤xs.size)(k:Nat):ky O key (mirror xs i j ((j-i) / 2)) k=if i≤k∧k<j then ky O key xs (i+j-1-k) else ky O key xs k:=by
 have e:=getElem?_mirror_all (i:=i) hj k
 by_cases h1:i≤k∧k<j
 ·rw [if_pos h1] at e ⊢;exact gu e
 ·rw [if_neg h1] at e ⊢;exact gu e
theorem fq{xs:Array Keyed}{i j:Nat}(hj:j≤xs.size)(heq:∀k,i≤k→k<j→ky O key xs k=ky O key xs (j-1))(k:Nat):ky O key (mirror xs i j ((j-i) / 2)) k=ky O key xs k:=by
 rw [oH hj]
 split
 ·rw [heq _ (by omega) (by omega),heq k (by omega) (by omega)]
 ·rfl
theorem uo{xs:Array Keyed}{src d:Nat}(hs:src<xs.size)(hd:d≤src)(k:Nat):
  ky O key (bubble xs src d) k=if k=src-d then ky O key xs src else if src-d<k∧k≤src then ky O key xs (k-1) else ky O key xs k:=by
 have e:=getElem?_bubble hs d hd k
 by_cases h1:k=src-d
 ·rw [if_pos h1] at e ⊢;exact gu e
 ·rw [if_neg h1] at e ⊢
  by_cases h2:src-d<k∧k≤src
  ·rw [if_pos h2] at e ⊢;exact gu e
  ·rw [if_neg h2] at e ⊢;exact gu e
structure Ok (S:Keyed→Prop) (k0:SortKind) (st:SortSt):Prop where
 mem:∀p,p∈(arrOf st).toList→S p
 kind:kindOf st=k0
theorem Ok.step{lo hi:Nat}(o:Ok S k0 bB)(a:fN bB st lo hi):Ok S k0 st:=
 ⟨λp hp=>o.mem p ((Ft.mp a.perm).mem_iff.mp hp),a.kind.trans o.kind⟩
theorem Ok.at{i:Nat}(o:Ok S k0 st)(hi:i<(arrOf st).size):(arrOf st)[i]? =some ((arrOf st)[i]?.getD (.none, .none))∧S ((arrOf st)[i]?.getD (.none, .none)):=by
 have e:(arrOf st)[i]? =some (arrOf st)[i]:=getElem?_pos _ i hi;rw [e];exact ⟨rfl,o.mem _ (by simp)⟩
theorem mJ(C:fM O key S k0 M A E s){i j:Nat}{Q:Option Bool→SortSt→Prop}(o:Ok S k0 st)(hi:i<(arrOf st).size)(hj:j<(arrOf st).size)
  (q:Q (some (O.blt (ky O key (arrOf st) i) (ky O key (arrOf st) j))) st):wpS M A E s (ltAt' i j) Q st:=by
 rw [ltAt'_eq];obtain ⟨e1,s1⟩:=o.at hi;obtain ⟨e2,s2⟩:=o.at hj;refine wpS_bind (wpS_get (wpS_bind (bh e1 (wpS_bind (bh e2 (C _ _ _ _ s1 s2 o.kind q))))))
theorem wpS_binarySort(C:fM O key S k0 M A E s){lo n ok:Nat}{Q:Bool→SortSt→Prop}(o:Ok S k0 st)(hn:lo+n≤(arrOf st).size)(hok:ok≤n)(hs:hZ O key (arrOf st) lo (lo+ok))
  (h:∀ai,fN st ai lo (lo+n)→hZ O key (arrOf ai) lo (lo+n)→Q true ai):wpS M A E s (binarySort' lo n ok) Q st:=by
 rw [binarySort'_eq]
 refine wpS_bind (wpS_mono (wpS_forRange (I:=λk c ai=>c=(none,())∧fN st ai lo (lo+n)∧hZ O key (arrOf ai) lo (lo+min k n))
  (Q:=λc ai=>c=(none,())∧fN st ai lo (lo+n)∧hZ O key (arrOf ai) lo (lo+n)) ?step ?fin ?init) ?post)
 case post=>
  rintro c ai ⟨rfl,iY,dX⟩;exact wpS_pure (h ai iY dX)
 case init=>
  refine ⟨rfl, .refl _ _ _,λi j hi cy hj=>?_⟩
  by_cases h1:ok=0
  ·have:i=j:=by omega
   subst this;exact KeyOrd.kle_refl _
  ·exact hs i j hi cy (by omega)
 case fin=>
  rintro c ai ⟨hc,iY,dX⟩;refine ⟨hc,iY,?_⟩
  rwa [show min (max (max ok 1) n) n=n by omega] at dX
 case step=>
  rintro k c ai hak Oz ⟨rfl,iY,dX⟩;rw [show min k n=k by omega] at dX
  have o':=o.step iY;have eD:=iY.size;have hk:lo+k<(arrOf ai).size:=by omega
  refine wpS_bind (wpS_mono (wpS_forRange (I:=λx c cu=>cu=ai∧∃l r,c=(none,l,r)∧l≤r∧r≤k∧r-l≤k-x∧
    (∀i,i<l→O.kle (ky O key (arrOf ai) (lo+i)) (ky O key (arrOf ai) (lo+k)))∧(∀i,r≤i→i<k→O.klt (ky O key (arrOf ai) (lo+k)) (ky O key (arrOf ai) (lo+i))))
   (Q:=λc cu=>cu=ai∧∃l r,c=(none,l,r)∧l≤k∧
    (∀i,i<l→O.kle (ky O key (arrOf ai) (lo+i)) (ky O key (arrOf ai) (lo+k)))∧(∀i,l≤i→i<k→O.klt (ky O key (arrOf ai) (lo+k)) (ky O key (arrOf ai) (lo+i)))) ?istep ?ifin ?iinit) ?ipost)
  case iinit=>exact ⟨rfl,0,k,rfl,by omega,by omega,by omega,λi hi=>by omega,λi h1 h2=>by omega⟩
  case ifin=>
   rintro c cu ⟨rfl,l,r,rfl,XM,OE,hm,Bm,FQ⟩
   have:l=r:=by omega
   subst this;exact ⟨rfl,l,l,rfl,OE,Bm,FQ⟩
  case istep=>
   rintro x c cu _ hxk ⟨rfl,l,r,rfl,XM,OE,hm,Bm,FQ⟩;dsimp only
   by_cases lT:l≥r
   ·rw [if_pos lT]
    have:l=r:=by omega
    subst this;exact wpS_pure ⟨rfl,l,l,rfl,OE,Bm,FQ⟩
   ·rw [if_neg lT]
    refine wpS_bind (mJ C o' hk (by omega) ?_)
    cases lU:O.blt (ky O key (arrOf cu) (lo+k)) (ky O key (arrOf cu) (lo+(l+r) / 2))
    case true=>
     simp only [if_true];refine wpS_pure ⟨rfl,l,(l+r) / 2,rfl,by omega,by omega,by omega,Bm,λi h1 h2=>?_⟩
     exact KeyOrd.klt_of_klt_of_kle lU (dX _ _ (by omega) (by omega) (by omega))
    case false=>
     simp only [kQ,if_false];refine wpS_pure ⟨rfl,(l+r) / 2+1,r,rfl,by omega,by omega,by omega,λi h1=>?_,FQ⟩
     exact KeyOrd.kle_trans (dX (lo+i) (lo+(l+r) / 2) (by omega) (by omega) (by omega)) (show O.kle _ _ from lU)
  case ipost=>
   rintro c cu ⟨rfl,l,r,rfl,hlk,Bm,FQ⟩;show wpS _ _ _ _ (do moveDown' (lo+k) (lo+l);pure (ForInStep.yield (none,()))) _ _
   rw [moveDown'_eq];have ed:lo+k-(lo+l)=k-l:=by omega
   refine wpS_bind (wpS_modify (wpS_pure ⟨rfl,iY.trans (fN.bubble (by omega) (by omega) (by omega) hk),?_⟩))
   rw [show min (k+1) n=k+1 by omega]
   intro i j hi cy hj;show O.kle (ky O key (bubble (arrOf cu) (lo+k) (lo+k-(lo+l))) i) (ky O key (bubble (arrOf cu) (lo+k) (lo+k-(lo+l))) j);rw [uo hk (by omega),uo hk (by omega),show lo+k-(lo+k-(lo+l))=lo+l by omega]
   have R7:∀a,lo≤a→a<lo+l→O.kle (ky O key (arrOf cu) a) (ky O key (arrOf cu) (lo+k)):=λa h1 h2=>by
    have:=Bm (a-lo) (by omega);rwa [show lo+(a-lo)=a by omega] at this
   have R4:∀a,lo+l≤a→a<lo+k→O.klt (ky O key (arrOf cu) (lo+k)) (ky O key (arrOf cu) a):=λa h1 h2=>by
    have:=FQ (a-lo) (by omega) (by omega);rwa [show lo+(a-lo)=a by omega] at this
   repeat' split
   all_goals first
    | (exfalso;omega)
    |exact KeyOrd.kle_refl _
    |exact R7 _ (by omega) (by omega)
    |exact KeyOrd.kle_of_klt (R4 _ (by omega) (by omega))
    |exact dX _ _ (by omega) (by omega) (by omega)
end
def AL(lo a ba:Nat):StateT SortSt Sem AscSt:=
 forIn [a:ba] ((none,a):AscSt) λ_ __s=>do
  let __x ←ltAt' (lo+__s.snd) (lo+__s.snd-1)
  match __x with
  |some uZ=>if uZ=true then pure (ForInStep.done (none,__s.snd)) else pure (ForInStep.yield (none,__s.snd+1))
  |_=>pure (ForInStep.done (some none,__s.snd))
def tailL(lo n ba:Nat):StateT SortSt Sem (Option Nat):=do
 reverseSlice' lo (lo+n)
 let __s ←AL lo n ba
 match __s.fst with
 |some r=>pure r
 |none=>pure (some __s.snd)
def yW(lo n ba:Nat):StateT SortSt Sem DescSt:=
 forIn [n:ba] ((none,n,0):DescSt) λ_ __s=>do
  let __x ←ltAt' (lo+__s.snd.fst) (lo+__s.snd.fst-1)
  match __x with
  |some uZ=>
   if uZ=true then
    if __s.snd.snd>0 then do
     reverseSlice' (lo+__s.snd.fst-(__s.snd.snd+1)) (lo+__s.snd.fst)
     pure (ForInStep.yield (none,__s.snd.fst+1,0))
    else pure (ForInStep.yield (none,__s.snd.fst+1,0))
   else do
    let __x ←ltAt' (lo+__s.snd.fst-1) (lo+__s.snd.fst)
    match __x with
    |some KR=>
     if KR=true then pure (ForInStep.done (none,__s.snd.fst,__s.snd.snd))
     else pure (ForInStep.yield (none,__s.snd.fst+1,__s.snd.snd+1))
    |_=>pure (ForInStep.done (some none,__s.snd.fst,__s.snd.snd))
  |_=>pure (ForInStep.done (some none,__s.snd.fst,__s.snd.snd))
def descP(lo n ba:Nat):StateT SortSt Sem (Option Nat):=do
 liftM (rule "list.sort.descending-run")
 let __s ←yW lo (n+1) ba
 match __s.fst with
 |some r=>pure r
 |none=>
  if __s.snd.snd>0 then do
   reverseSlice' (lo+__s.snd.fst-(__s.snd.snd+1)) (lo+__s.snd.fst)
   tailL lo __s.snd.fst ba
  else tailL lo __s.snd.fst ba
theorem vW(lo ba:Nat):countRun' lo ba=(do
  let __s ←AL lo 1 ba
  match __s.fst with
  |some r=>pure r
  |none=>
   if (__s.snd==ba)=true then pure (some __s.snd)
   else if __s.snd>1 then do
    let __x ←ltAt' lo (lo+__s.snd-1)
    match __x with
    |some MQ=>if MQ=true then pure (some __s.snd) else do
      reverseSlice' lo (lo+__s.snd)
      descP lo __s.snd ba
    |_=>pure none
   else descP lo __s.snd ba):=by
 rw [countRun'_eq];dsimp only;unfold descP tailL yW AL
 congr 1
 funext __s
 obtain ⟨r,n⟩:=__s;cases r with
 |some r=>rfl
 |none=>
  dsimp only
  split
  ·rfl
  ·split
   ·congr 1
    funext x
    cases x with
    |none=>rfl
    |some MQ=>
     dsimp only
     split
     ·rfl
     ·congr 1
      funext _r
      (congr 1;funext _u;congr 1;congr 1;funext s2;obtain ⟨r2,n2,q2⟩:=s2;cases r2 with
 |some r2=>rfl
 |none=>(dsimp only;split;(congr 1;funext _v;(congr 1;funext _w;congr 1;(funext s3;obtain ⟨r3,n3⟩:=s3;cases r3<;>rfl)));(congr 1;funext _w;congr 1;(funext s3;obtain ⟨r3,n3⟩:=s3;cases r3<;>rfl))))
   ·(congr 1;funext _u;congr 1;congr 1;funext s2;obtain ⟨r2,n2,q2⟩:=s2;cases r2 with
 |some r2=>rfl
 |none=>(dsimp only;split;(congr 1;funext _v;(congr 1;funext _w;congr 1;(funext s3;obtain ⟨r3,n3⟩:=s3;cases r3<;>rfl)));(congr 1;funext _w;congr 1;(funext s3;obtain ⟨r3,n3⟩:=s3;cases r3<;>rfl))))
section
variable {O:KeyOrd} {key:Keyed→O.α} {S:Keyed→Prop} {k0:SortKind} {prog:Program} {w:World} {A:Around} {E:Value→Shared→Prop} {s:Shared} {st bB:SortSt}
theorem yx(C:fM O key S k0 (model prog w) A E s){lo a ba:Nat}{Q:AscSt→SortSt→Prop}(o:Ok S k0 st)(hn:lo+ba≤(arrOf st).size)(ha:1≤a)(Xp:a≤ba)(hs:hZ O key (arrOf st) lo (lo+a))
  (h:∀n,a≤n→n≤ba→hZ O key (arrOf st) lo (lo+n)→(n=ba∨O.klt (ky O key (arrOf st) (lo+n)) (ky O key (arrOf st) (lo+n-1)))→Q (none,n) st):
  wpS (model prog w) A E s (AL lo a ba) Q st:=by
 unfold AL;refine wpS_forRange (I:=λx c ai=>ai=st∧c=(none,x)∧hZ O key (arrOf st) lo (lo+x)) ?step ?fin ⟨rfl,rfl,hs⟩
 case fin=>
  rintro c ai ⟨rfl,rfl,dX⟩;rw [show max a ba=ba by omega] at dX ⊢
  exact h ba Xp (bx _) dX (.inl rfl)
 case step=>
  rintro x c ai RN X8 ⟨rfl,rfl,dX⟩;dsimp only;refine wpS_bind (mJ C o (by omega) (by omega) ?_)
  cases lU:O.blt (ky O key (arrOf ai) (lo+x)) (ky O key (arrOf ai) (lo+x-1))
  case true=>
   simp only [if_true];exact wpS_pure (h x RN (by omega) dX (.inr lU))
  case false=>
   simp only [kQ,if_false];refine wpS_pure ⟨rfl,rfl,λi j hi cy hj=>?_⟩
   by_cases HZ:j<lo+x
   ·exact dX i j hi cy HZ
   ·have Bk:j=lo+x:=by omega
    subst Bk
    by_cases h7:i=lo+x
    ·subst h7;exact KeyOrd.kle_refl _
    ·exact KeyOrd.kle_trans (dX i (lo+x-1) hi (by omega) (by omega)) lU
theorem qt{i j:Nat}{Q:Unit→SortSt→Prop}(h:Q () (setArr st (mirror (arrOf st) i j ((j-i) / 2)))):wpS (model prog w) A E s (reverseSlice' i j) Q st:=by
 rw [reverseSlice'_eq];exact wpS_modify h
theorem vq(C:fM O key S k0 (model prog w) A E s){lo n ba:Nat}{Q:Option Nat→SortSt→Prop}(o:Ok S k0 st)(hn:lo+ba≤(arrOf st).size)(h1:1≤n)(ze:n≤ba)(hs:Fw O key (arrOf st) lo (lo+n))
  (h:∀m ai,fN st ai lo (lo+ba)→1≤m→m≤ba→hZ O key (arrOf ai) lo (lo+m)→Q (some m) ai):wpS (model prog w) A E s (tailL lo n ba) Q st:=by
 unfold tailL;have eD:lo+n≤(arrOf st).size:=by omega
 refine wpS_bind (qt ?_);have hB:fN st (setArr st (mirror (arrOf st) lo (lo+n) ((lo+n-lo) / 2))) lo (lo+ba):=fN.mirror (bx _) (by omega) eD
 refine wpS_bind (yx C (o.step hB) (by rw [hB.size];exact hn) h1 ze ?_ λm XO Kw X2 _=>wpS_pure (h m _ hB (by omega) Kw X2))
 intro i j hi cy hj;show O.kle (ky O key (mirror (arrOf st) lo (lo+n) ((lo+n-lo) / 2)) i) (ky O key (mirror (arrOf st) lo (lo+n) ((lo+n-lo) / 2)) j);rw [oH eD,oH eD,if_pos (by omega),if_pos (by omega)]
 exact hs _ _ (by omega) (by omega) (by omega)
theorem Ek(C:fM O key S k0 (model prog w) A E s){lo n ba:Nat}{Q:DescSt→SortSt→Prop}(o:Ok S k0 st)(hn:lo+ba≤(arrOf st).size)(h1:1≤n)(ze:n≤ba)(hs:Fw O key (arrOf st) lo (lo+n))
  (h:∀m lZ ai,fN st ai lo (lo+ba)→n≤m→m≤ba→Fw O key (arrOf ai) lo (lo+m)→lZ+1≤m→(∀i,lo+m-(lZ+1)≤i→i<lo+m→ky O key (arrOf ai) i=ky O key (arrOf ai) (lo+m-1))→Q (none,m,lZ) ai):
  wpS (model prog w) A E s (yW lo n ba) Q st:=by
 unfold yW
 refine wpS_forRange (I:=λx c ai=>∃lZ,c=(none,x,lZ)∧fN st ai lo (lo+ba)∧Fw O key (arrOf ai) lo (lo+x)∧lZ+1≤x∧
   (∀i,lo+x-(lZ+1)≤i→i<lo+x→ky O key (arrOf ai) i=ky O key (arrOf ai) (lo+x-1))) ?step ?fin ⟨0,rfl, .refl _ _ _,hs,by omega,λi h1 h2=>by congr 1;omega⟩
 case fin=>
  rintro c ai ⟨lZ,rfl,iY,dX,hq,he⟩;rw [show max n ba=ba by omega] at dX hq he ⊢
  exact h ba lZ ai iY ze (bx _) dX hq he
 case step=>
  rintro x c ai RN X8 ⟨lZ,rfl,iY,dX,hq,he⟩;dsimp only;have o':=o.step iY;have hz:=iY.size;have eD:lo+x≤(arrOf ai).size:=by omega
  refine wpS_bind (mJ C o' (by omega) (by omega) ?_)
  cases lU:O.blt (ky O key (arrOf ai) (lo+x)) (ky O key (arrOf ai) (lo+x-1))
  case true=>
   simp only [if_true]
   have JN:∀xs:Array Keyed,(∀k,ky O key xs k=ky O key (arrOf ai) k)→Fw O key xs lo (lo+(x+1)):=by
    intro xs hk i j hi cy hj;rw [hk,hk]
    by_cases HZ:j<lo+x
    ·exact dX i j hi cy HZ
    ·have Bk:j=lo+x:=by omega
     subst Bk
     by_cases h7:i=lo+x
     ·subst h7;exact KeyOrd.kle_refl _
     ·exact KeyOrd.kle_trans (KeyOrd.kle_of_klt lU) (dX i (lo+x-1) hi (by omega) (by omega))
   by_cases Bn:lZ>0
   ·rw [if_pos Bn]
    refine wpS_bind (qt (wpS_pure ⟨0,rfl,iY.trans (fN.mirror (by omega) (by omega) eD),JN _ (fq eD he),by omega,λi h1 h2=>by congr 1;omega⟩))
   ·rw [if_neg Bn]
    exact wpS_pure ⟨0,rfl,iY,JN _ (λ_=>rfl),by omega,λi h1 h2=>by congr 1;omega⟩
  case false=>
   simp only [kQ,if_false];refine wpS_bind (mJ C o' (by omega) (by omega) ?_)
   cases H0:O.blt (ky O key (arrOf ai) (lo+x-1)) (ky O key (arrOf ai) (lo+x))
   case true=>
    simp only [if_true];exact wpS_pure (h x lZ ai iY (by omega) (by omega) dX hq he)
   case false=>
    simp only [kQ,if_false];have My:ky O key (arrOf ai) (lo+x)=ky O key (arrOf ai) (lo+x-1):=O.total _ _ lU H0;refine wpS_pure ⟨lZ+1,rfl,iY,λi j hi cy hj=>?_,by omega,λi h1 h2=>?_⟩
    ·by_cases HZ:j<lo+x
     ·exact dX i j hi cy HZ
     ·have Bk:j=lo+x:=by omega
      subst Bk
      by_cases h7:i=lo+x
      ·subst h7;exact KeyOrd.kle_refl _
      ·rw [My];exact dX i (lo+x-1) hi (by omega) (by omega)
    ·rw [show lo+(x+1)-1=lo+x by omega]
     by_cases XE:i=lo+x
     ·subst XE;rfl
     ·rw [My];exact he i (by omega) (by omega)
theorem ve(C:fM O key S k0 (model prog w) A E s){lo n ba:Nat}{Q:Option Nat→SortSt→Prop}(o:Ok S k0 st)(hn:lo+ba≤(arrOf st).size)(ze:n+1≤ba)(hs:Fw O key (arrOf st) lo (lo+(n+1)))
  (h:∀m ai,fN st ai lo (lo+ba)→1≤m→m≤ba→hZ O key (arrOf ai) lo (lo+m)→Q (some m) ai):wpS (model prog w) A E s (descP lo n ba) Q st:=by
 unfold descP;refine wpS_bind (wpS_lift (wpAny_rule ⟨rfl,?_⟩));refine wpS_bind (Ek C o hn (by omega) ze hs λm lZ ai iY XO Kw dX hq he=>?_)
 dsimp only;have hz:=iY.size;have eD:lo+m≤(arrOf ai).size:=by omega
 by_cases Bn:lZ>0
 ·rw [if_pos Bn]
  have N4:fN ai (setArr ai (mirror (arrOf ai) (lo+m-(lZ+1)) (lo+m) ((lo+m-(lo+m-(lZ+1))) / 2))) lo (lo+ba):=fN.mirror (by omega) (by omega) eD
  refine wpS_bind (qt (vq C (o.step (iY.trans N4)) (by rw [N4.size];omega) (by omega) Kw ?_ λm' cu hS=>h m' cu ((iY.trans N4).trans hS)))
  intro i j hi cy hj;show O.kle (ky O key (mirror (arrOf ai) _ _ _) j) (ky O key (mirror (arrOf ai) _ _ _) i);rw [fq eD he,fq eD he];exact dX i j hi cy hj
 ·rw [if_neg Bn]
  exact vq C (o.step iY) (by omega) (by omega) Kw dX λm' cu hS=>h m' cu (iY.trans hS)
theorem wpS_countRun(C:fM O key S k0 (model prog w) A E s){lo ba:Nat}{Q:Option Nat→SortSt→Prop}(o:Ok S k0 st)(hn:lo+ba≤(arrOf st).size)(h1:1≤ba)
  (h:∀m ai,fN st ai lo (lo+ba)→1≤m→m≤ba→hZ O key (arrOf ai) lo (lo+m)→Q (some m) ai):wpS (model prog w) A E s (countRun' lo ba) Q st:=by
 rw [vW];refine wpS_bind (yx C o hn (bx 1) h1 (λi j hi cy hj=>by have:i=j:=(by omega);subst this;exact KeyOrd.kle_refl _) λn R8 vZ Kz XU=>?_)
 dsimp only
 by_cases ze:n=ba
 ·rw [if_pos (by simpa using ze)]
  exact wpS_pure (h n st (.refl _ _ _) R8 vZ Kz)
 ·rw [if_neg (by simpa using ze)]
  have bN:O.klt (ky O key (arrOf st) (lo+n)) (ky O key (arrOf st) (lo+n-1)):=XU.resolve_left ze
  by_cases R0:n>1
  ·rw [if_pos R0]
   refine wpS_bind (mJ C o (by omega) (by omega) ?_)
   cases OF:O.blt (ky O key (arrOf st) lo) (ky O key (arrOf st) (lo+n-1))
   case true=>
    simp only [if_true];exact wpS_pure (h n st (.refl _ _ _) R8 vZ Kz)
   case false=>
    simp only [kQ,if_false];have eD:lo+n≤(arrOf st).size:=by omega
    have ue:∀k,lo≤k→k<lo+n→ky O key (arrOf st) k=ky O key (arrOf st) (lo+n-1):=by
     intro k zc hk;have a1:=Kz lo k (by omega) zc hk
     have a2:=Kz k (lo+n-1) zc (by omega) (by omega)
     exact KeyOrd.kle_antisymm a2 (KeyOrd.kle_trans OF a1)
    have hB:fN st (setArr st (mirror (arrOf st) lo (lo+n) ((lo+n-lo) / 2))) lo (lo+ba):=fN.mirror (bx _) (by omega) eD
    refine wpS_bind (qt (ve C (o.step hB) (by rw [hB.size];omega) (by omega) ?_ λm' cu hS=>h m' cu (hB.trans hS)))
    intro i j hi cy hj;show O.kle (ky O key (mirror (arrOf st) _ _ _) j) (ky O key (mirror (arrOf st) _ _ _) i);rw [fq eD ue,fq eD ue]
    by_cases XG:j<lo+n
    ·rw [ue i hi (by omega),ue j (by omega) XG];exact KeyOrd.kle_refl _
    ·have Bk:j=lo+n:=by omega
     subst Bk
     by_cases h7:i=lo+n
     ·subst h7;exact KeyOrd.kle_refl _
     ·rw [ue i hi (by omega)];exact KeyOrd.kle_of_klt bN
  ·rw [if_neg R0]
   have R9:n=1:=by omega
   subst R9;refine ve C o hn (by omega) ?_ h
   intro i j hi cy hj
   by_cases h7:i=j
   ·subst h7;exact KeyOrd.kle_refl _
   ·have XA:i=lo:=by omega
    have XF:j=lo+1:=by omega
    subst XA;subst XF;exact KeyOrd.kle_of_klt bN
end
section lists
variable (O:KeyOrd) (key:Keyed→O.α)
def LE(x y:Keyed):Prop:=O.kle (key x) (key y)
structure MI (l o ra rb:List Keyed):Prop where
 perm:(o++(ra++rb)).Perm l
 so:o.Pairwise (LE O key)
 sa:ra.Pairwise (LE O key)
 sb:rb.Pairwise (LE O key)
 le:∀x∈o,∀y∈ra++rb,LE O key x y
def Res(l r:List Keyed):Prop:=r.Perm l∧r.Pairwise (LE O key)
variable {O key}
theorem MI.kg{l o xs ra rb:List Keyed}(m:MI O key l o (xs++ra) rb)(h:∀x∈xs,∀y∈rb,LE O key x y):MI O key l (o++xs) ra rb:=by
 obtain ⟨sx,sr,sxr⟩:=List.pairwise_append.mp m.sa;refine ⟨by simpa [kR] using m.perm,List.pairwise_append.mpr ⟨m.so,sx,λx hx y hy=>m.le x hx y (by simp [hy])⟩,sr,m.sb,λx hx y hy=>?_⟩
 rcases cv.mp hx with z|z
 ·refine m.le x z y ?_
  rcases cv.mp hy with u|u<;>simp [u]
 ·rcases cv.mp hy with u|u
  ·exact sxr x z y u
  ·exact h x z y u
theorem MI.swap{l o ra rb:List Keyed}(m:MI O key l o ra rb):MI O key l o rb ra:=
 ⟨(List.Perm.append_left o fj).trans m.perm,m.so,m.sb,m.sa,λx hx y hy=>m.le x hx y (by rcases cv.mp hy with u|u<;>simp [u])⟩
theorem MI.kh{l o xs ra rb:List Keyed}(m:MI O key l o ra (xs++rb))(h:∀x∈xs,∀y∈ra,LE O key x y):MI O key l (o++xs) ra rb:=(m.swap.kg h).swap
theorem MI.A8{l o ra:List Keyed}(m:MI O key l o ra []):Res O key l (o++ra):=
 ⟨by simpa using m.perm,List.pairwise_append.mpr ⟨m.so,m.sa,λx hx y hy=>m.le x hx y (by simp [hy])⟩⟩
theorem MI.zk{l o ra rb:List Keyed}(m:MI O key l o ra rb)(h:∀y∈rb,∀x∈ra,LE O key y x):Res O key l (o++rb++ra):=by
 have m':MI O key l o ra (rb++ []):=by rw [hJ];exact m
 exact (m'.kh h).A8
end lists
def zr(a b:Array Keyed)(mg ac bc ia:Nat)(out:Array Keyed)(ib:Nat):StateT SortSt Sem (ForInStep (Option (Array Keyed)×Array Keyed×Nat×Nat×Nat×Nat×Nat)):=do
 let __do_lift ←elem' a ia
 let out:Array Keyed:=out.push __do_lift
 let ia:Nat:=ia+1
 if (ia+1==a.size)=true then pure (ForInStep.done (some (out++b.extract ib b.size++a.extract ia a.size),out,ia,ib,mg,ac,bc))
 else if (decide (ac<7)&&decide (bc<7))=true then pure (ForInStep.done (none,out,ia,ib,mg,ac,bc))
 else pure (ForInStep.yield (none,out,ia,ib,mg,ac,bc))
def qU(a b:Array Keyed)(mg ac bc ib:Nat)(out:Array Keyed)(ia:Nat):StateT SortSt Sem (ForInStep (Option (Array Keyed)×Array Keyed×Nat×Nat×Nat×Nat×Nat)):=do
 let __do_lift ←elem' b ib
 let out:Array Keyed:=out.push __do_lift
 let ib:Nat:=ib+1
 if (ib==b.size)=true then pure (ForInStep.done (some (out++a.extract ia a.size++b.extract ib b.size),out,ia,ib,mg,ac,bc))
 else do
  let __do_lift ←elem' a ia
  let __x ←dM true __do_lift b ib (b.size-ib) 0
  match __x with
  |some k=>
   if k>0 then
    if (ib+k==b.size)=true then pure (ForInStep.done (some (out++b.extract ib (ib+k)++a.extract ia a.size++b.extract (ib+k) b.size),out++b.extract ib (ib+k),ia,ib+k,mg,ac,k))
    else zr a b mg ac k ia (out++b.extract ib (ib+k)) (ib+k)
   else zr a b mg ac k ia out ib
  |_=>pure (ForInStep.done (some (out++a.extract ia a.size++b.extract ib b.size),out,ia,ib,mg,ac,bc))
def oM(a b:Array Keyed)(bc ac ia ib:Nat)(out:Array Keyed)(mg:Nat):StateT SortSt Sem (ForInStep (Option (Array Keyed)×Array Keyed×Nat×Nat×Nat×Nat×Nat)):=do
 setMinGallop' mg
 let __do_lift ←elem' b ib
 let __x ←dM false __do_lift a ia (a.size-ia) 0
 match __x with
 |some k=>
  if k>0 then
   if (ia+k+1==a.size)=true then pure (ForInStep.done (some (out++a.extract ia (ia+k)++b.extract ib b.size++a.extract (ia+k) a.size),out++a.extract ia (ia+k),ia+k,ib,mg,k,bc))
   else if (ia+k==a.size)=true then pure (ForInStep.done (some (out++a.extract ia (ia+k)++a.extract (ia+k) a.size++b.extract ib b.size),out++a.extract ia (ia+k),ia+k,ib,mg,k,bc))
   else qU a b mg k bc ib (out++a.extract ia (ia+k)) (ia+k)
  else qU a b mg k bc ib out ia
 |_=>pure (ForInStep.done (some (out++a.extract ia a.size++b.extract ib b.size),out,ia,ib,mg,ac,bc))
def zu(a b:Array Keyed)(__s:Option (Array Keyed)×Array Keyed×Nat×Nat×Nat×Nat×Nat):StateT SortSt Sem (ForInStep (Option (Array Keyed)×Array Keyed×Nat×Nat×Nat×Nat×Nat)):=
 if __s.2.2.2.2.1>1 then oM a b __s.2.2.2.2.2.2 __s.2.2.2.2.2.1 __s.2.2.1 __s.2.2.2.1 __s.2.1 (__s.2.2.2.2.1-1) else oM a b __s.2.2.2.2.2.2 __s.2.2.2.2.2.1 __s.2.2.1 __s.2.2.2.1 __s.2.1 __s.2.2.2.2.1
def zt(a b:Array Keyed)(mg:Nat)(__s:Option (Array Keyed)×Array Keyed×Nat×Nat×Nat×Nat):StateT SortSt Sem (ForInStep (Option (Array Keyed)×Array Keyed×Nat×Nat×Nat×Nat)):=do
 let y ←elem' b __s.2.2.2.1
 let x ←elem' a __s.2.2.1
 let __x ←lt' y x
 match __x with
 |some Cv=>
  if Cv=true then do
   let y ←elem' b __s.2.2.2.1
   if (__s.2.2.2.1+1==b.size)=true then pure (ForInStep.done (some (__s.2.1.push y++a.extract __s.2.2.1 a.size++b.extract (__s.2.2.2.1+1) b.size),__s.2.1.push y,__s.2.2.1,__s.2.2.2.1+1,0,__s.2.2.2.2.2+1))
   else if __s.2.2.2.2.2+1≥mg then pure (ForInStep.done (none,__s.2.1.push y,__s.2.2.1,__s.2.2.2.1+1,0,__s.2.2.2.2.2+1))
   else pure (ForInStep.yield (none,__s.2.1.push y,__s.2.2.1,__s.2.2.2.1+1,0,__s.2.2.2.2.2+1))
  else do
   let x ←elem' a __s.2.2.1
   if (__s.2.2.1+1+1==a.size)=true then pure (ForInStep.done (some (__s.2.1.push x++b.extract __s.2.2.2.1 b.size++a.extract (__s.2.2.1+1) a.size),__s.2.1.push x,__s.2.2.1+1,__s.2.2.2.1,__s.2.2.2.2.1+1,0))
   else if __s.2.2.2.2.1+1≥mg then pure (ForInStep.done (none,__s.2.1.push x,__s.2.2.1+1,__s.2.2.2.1,__s.2.2.2.2.1+1,0))
   else pure (ForInStep.yield (none,__s.2.1.push x,__s.2.2.1+1,__s.2.2.2.1,__s.2.2.2.2.1+1,0))
 |_=>pure (ForInStep.done (some (__s.2.1++a.extract __s.2.2.1 a.size++b.extract __s.2.2.2.1 b.size),__s.2.1,__s.2.2.1,__s.2.2.2.1,__s.2.2.2.2.1,__s.2.2.2.2.2))
def pR(a b:Array Keyed)(__s:Option (Array Keyed)×Array Keyed×Nat×Nat×Nat):StateT SortSt Sem (ForInStep (Option (Array Keyed)×Array Keyed×Nat×Nat×Nat)):=do
 let __t ←forIn [0:a.size+b.size] (none,__s.2.1,__s.2.2.1,__s.2.2.2.1,0,0) λ_ c=>zt a b __s.2.2.2.2 c
 match __t.1 with
 |some r=>pure (ForInStep.done (some r,__t.2.1,__t.2.2.1,__t.2.2.2.1,__s.2.2.2.2))
 |none=>do
  liftM (rule "list.sort.gallop")
  let __u ←forIn [0:a.size+b.size] (none,__t.2.1,__t.2.2.1,__t.2.2.2.1,__s.2.2.2.2+1,__t.2.2.2.2.1,__t.2.2.2.2.2) λ_ c=>zu a b c
  match __u.1 with
  |some r=>pure (ForInStep.done (some r,__u.2.1,__u.2.2.1,__u.2.2.2.1,__u.2.2.2.2.1))
  |none=>do
   setMinGallop' (__u.2.2.2.2.1+1)
   pure (ForInStep.yield (none,__u.2.1,__u.2.2.1,__u.2.2.2.1,__u.2.2.2.2.1+1))
theorem bnd{α β:Type}{m m':StateT SortSt Sem α}{f f':α→StateT SortSt Sem β}(h:m=m')(g:∀x,f x=f' x):m>>=f=m'>>=f':=by rw [h,show f=f' from funext g]
theorem y3{β:Type}{n:Nat}{c0:β}{f f':Nat→β→StateT SortSt Sem (ForInStep β)}(h:∀i c,f i c=f' i c):forIn [0:n] c0 f=forIn [0:n] c0 f':=by rw [show f=f' from funext λi=>funext (h i)]
theorem ee{α:Type}{c:Prop} [Decidable c] {x y x' y':α} (h:c→x=x') (g:¬c→y=y'):(if c then x else y)=if c then x' else y':=by
 by_cases e:c
 ·rw [if_pos e,if_pos e];exact h e
 ·rw [if_neg e,if_neg e];exact g e
theorem v9(a b:Array Keyed):m7 a b=(do
 rule "list.sort.merge-lo"
 let total:=a.size+b.size
 let done (out:Array Keyed) (ia ib:Nat):=out++a.extract ia a.size++b.extract ib b.size
 let pO (out:Array Keyed) (ia ib:Nat):=out++b.extract ib b.size++a.extract ia a.size
 let mut out:Array Keyed:= #[←elem' b 0]
 let mut ia:=0
 let mut ib:=1
 if ib==b.size then return done out ia ib
 if ia+1==a.size then return pO out ia ib
 let mut minGallop:=gallopOf (←get)
 for _ in [0:total] do
  let mut acount:=0
  let mut bcount:=0
  for _ in [0:total] do
   let some Cv ←lt' (←elem' b ib) (←elem' a ia) |return done out ia ib
   if Cv then
    out:=out.push (←elem' b ib);ib:=ib+1;bcount:=bcount+1;acount:=0
    if ib==b.size then return done out ia ib
    if bcount≥minGallop then break
   else
    out:=out.push (←elem' a ia);ia:=ia+1;acount:=acount+1;bcount:=0
    if ia+1==a.size then return pO out ia ib
    if acount≥minGallop then break
  rule "list.sort.gallop"
  minGallop:=minGallop+1
  for _ in [0:total] do
   if minGallop>1 then minGallop:=minGallop-1
   setMinGallop' minGallop
   let some k ←dM false (←elem' b ib) a ia (a.size-ia) 0|return done out ia ib
   acount:=k
   if k>0 then
    out:=out++a.extract ia (ia+k);ia:=ia+k
    if ia+1==a.size then return pO out ia ib
    if ia==a.size then return done out ia ib
   out:=out.push (←elem' b ib);ib:=ib+1
   if ib==b.size then return done out ia ib
   let some k ←dM true (←elem' a ia) b ib (b.size-ib) 0|return done out ia ib
   bcount:=k
   if k>0 then
    out:=out++b.extract ib (ib+k);ib:=ib+k
    if ib==b.size then return done out ia ib
   out:=out.push (←elem' a ia);ia:=ia+1
   if ia+1==a.size then return pO out ia ib
   if acount<7&&bcount<7 then break
  minGallop:=minGallop+1
  setMinGallop' minGallop
 unsupported "internal:list.sort.merge-bound"):=rfl
theorem zy(a b:Array Keyed):m7 a b=(do
 liftM (rule "list.sort.merge-lo")
 let y ←elem' b 0
 if (1==b.size)=true then pure (#[y]++a.extract 0 a.size++b.extract 1 b.size)
 else if (0+1==a.size)=true then pure (#[y]++b.extract 1 b.size++a.extract 0 a.size)
 else do
  let __do_lift ←get
  let __s ←forIn [0:a.size+b.size] (none, #[y],0,1,gallopOf __do_lift) λ_ c=>pR a b c
  match __s.1 with
  |some r=>pure r
  |none=>liftM (unsupported (α:=Array Keyed) "internal:list.sort.merge-bound")):=by
 rw [v9];dsimp only;refine bnd rfl λ_=>bnd rfl λy=>?_;refine congrArg (ite _ _) (congrArg (ite _ _) ?_);refine bnd rfl λg=>bnd (y3 λ_ c=>?_) λu=>?_
 ·unfold pR
  refine bnd (y3 λ_ t=>?_) λt=>?_
  ·unfold zt
   refine bnd rfl λ_=>bnd rfl λ_=>bnd rfl λz=>?_;cases z<;>rfl
  ·obtain ⟨t1,t2⟩:=t
   cases t1 with
   |some r=>rfl
   |none=>
    dsimp only;refine bnd rfl λ_=>bnd (y3 λ_ u=>?_) λu=>?_
    ·unfold zu
     have jp:∀mg,oM a b u.2.2.2.2.2.2 u.2.2.2.2.2.1 u.2.2.1 u.2.2.2.1 u.2.1 mg=oM a b u.2.2.2.2.2.2 u.2.2.2.2.2.1 u.2.2.1 u.2.2.2.1 u.2.1 mg:=λ_=>rfl;refine ee (λ_=>?_) (λ_=>?_)
     all_goals
      unfold oM;refine bnd rfl λ_=>bnd rfl λ_=>bnd rfl λz=>?_;cases z with
      |none=>rfl
      |some k=>
       dsimp only;refine ee (λ_=>?_) (λ_=>?_)
       ·refine ee (λ_=>rfl) (λ_=>ee (λ_=>rfl) (λ_=>?_))
        unfold qU;refine bnd rfl λ_=>ee (λ_=>rfl) (λ_=>bnd rfl λ_=>bnd rfl λz=>?_);cases z with
        |none=>rfl
        |some k=>rfl
       ·unfold qU
        refine bnd rfl λ_=>ee (λ_=>rfl) (λ_=>bnd rfl λ_=>bnd rfl λz=>?_);cases z with
        |none=>rfl
        |some k=>rfl
    ·obtain ⟨u1,u2⟩:=u
     cases u1<;>rfl
 ·obtain ⟨u1,u2⟩:=u
  cases u1<;>rfl
structure GS (st ai:SortSt):Prop where
 arr:arrOf ai=arrOf st
 kind:kindOf ai=kindOf st
 failed:failedOf ai=failedOf st
 pend:pendingOf ai=pendingOf st
theorem GS.refl(st:SortSt):GS st st:=⟨rfl,rfl,rfl,rfl⟩
theorem GS.trans{a b c:SortSt}(x:GS a b)(y:GS b c):GS a c:=⟨y.arr.trans x.arr,y.kind.trans x.kind,y.failed.trans x.failed,y.pend.trans x.pend⟩
theorem qi(g:Nat):setMinGallop' g=modify λs=>SortSt.mk' (kindOf s) (arrOf s) (pendingOf s) g (failedOf s):=rfl
theorem ext_toList(xs:Array Keyed)(i j:Nat):(xs.extract i j).toList=(xs.toList.drop i).take (j-i):=by
 rw [Array.toList_extract]
theorem jE(xs:Array Keyed)(i:Nat):(xs.extract i xs.size).toList=xs.toList.drop i:=by
 rw [ext_toList,vA (by simp)]
theorem drop_cons{xs:Array Keyed}{i:Nat}{x:Keyed}(h:xs[i]? =some x):xs.toList.drop i=x::xs.toList.drop (i+1):=by
 have h':xs.toList[i]? =some x:=by rw [←h];simp
 obtain ⟨bN,e⟩:=eO.mp h';rw [qv bN,e]
theorem lM(l:List Keyed)(i k:Nat):l.drop i=(l.drop i).take k++l.drop (i+k):=by
 rw [←List.drop_drop,gO]
theorem dq{l:List Keyed}{i k:Nat}{x:Keyed}(h:x∈(l.drop i).take k):∃j,j<k∧i+j<l.length∧l[i+j]? =some x:=by
 obtain ⟨j,hj⟩:=vD h;rw [List.getElem?_take] at hj
 split at hj
 ·rename_i c
  rw [qy] at hj;exact ⟨j,c,(eO.mp hj).1,hj⟩
 ·cases hj
theorem fA{l:List Keyed}{i:Nat}{x:Keyed}(h:x∈l.drop i):∃j,i+j<l.length∧l[i+j]? =some x:=by
 obtain ⟨j,hj⟩:=vD h;rw [qy] at hj;exact ⟨j,(eO.mp hj).1,hj⟩
section
variable {O:KeyOrd} {key:Keyed→O.α} {S:Keyed→Prop} {k0:SortKind} {M:Model} {A:Around} {E:Value→Shared→Prop} {s:Shared} {st bB:SortSt}
theorem nu{g:Nat}{Q:Unit→SortSt→Prop}(h:∀ai,GS st ai→Q () ai):wpS M A E s (setMinGallop' g) Q st:=by
 rw [qi];exact wpS_modify (h _ ⟨rfl,rfl,rfl,rfl⟩)
structure kY (O:KeyOrd) (key:Keyed→O.α) (S:Keyed→Prop) (a b:Array Keyed):Prop where
 ma:∀x∈a.toList,S x
 mb:∀x∈b.toList,S x
 sa:a.toList.Pairwise (LE O key)
 sb:b.toList.Pairwise (LE O key)
 na:1≤a.size
 nb:1≤b.size
 first:∀y,b[0]? =some y→∀x∈a.toList,LE O key y x
 last:∀x,a[a.size-1]? =some x→∀y∈b.toList,LE O key y x
theorem kY.zk{a b:Array Keyed}(T:kY O key S a b){ia ib:Nat}(h:ia+1=a.size):∀y∈b.toList.drop ib,∀x∈a.toList.drop ia,LE O key y x:=λy hy x hx=>by
 obtain ⟨j,hj,e⟩:=fA hx;rw [dA] at hj
 have:ia+j=a.size-1:=by omega
 rw [this] at e;exact T.last x (by rw [←e];simp) y (List.mem_of_mem_drop hy)
theorem eX{l:List Keyed}(h:l.Pairwise (LE O key)){i j:Nat}{x y:Keyed}(cy:i≤j)(hx:l[i]? =some x)(hy:l[j]? =some y):LE O key x y:=by
 by_cases e:i=j
 ·subst e
  rw [hx] at hy;cases hy;exact KeyOrd.kle_refl _
 ·obtain ⟨h1,e1⟩:=eO.mp hx
  obtain ⟨h2,e2⟩:=eO.mp hy;rw [←e1,←e2];exact Ax.mp h i j h1 h2 (by omega)
theorem m9{xs:Array Keyed}(m:∀x∈xs.toList,S x){i n:Nat}(h:i+n≤xs.size):Seg S xs i n (λj=>xs[i+j]?.getD (.none, .none)):=
 ⟨λj hj=>by
  have:i+j<xs.size:=by omega
  rw [getElem?_pos xs (i+j) this];rfl,λj hj=>by
  have:i+j<xs.size:=by omega
  rw [getElem?_pos xs (i+j) this];exact m _ (by simp)⟩
theorem bu{xs:Array Keyed}{i:Nat}(h:i<xs.size):∃x,xs[i]? =some x∧x∈xs.toList∧xs.toList[i]? =some x:=by
 refine ⟨xs[i],getElem?_pos xs i h,by simp,?_⟩
 rw [f6];exact getElem?_pos xs i h
theorem jK{xs:Array Keyed}{i:Nat}{x:Keyed}(h:xs[i]? =some x):xs.toList[i]? =some x:=by rw [f6];exact h
theorem i7{xs:Array Keyed}{i:Nat}{x:Keyed}(h:xs.toList[i]? =some x):xs[i]? =some x:=by rw [←f6];exact h
structure IV (O:KeyOrd) (key:Keyed→O.α) (a b out:Array Keyed) (ia ib:Nat):Prop where
 mi:MI O key (a.toList++b.toList) out.toList (a.toList.drop ia) (b.toList.drop ib)
 ha:ia<a.size
 hb:ib<b.size
theorem IV.rg{a b out:Array Keyed}{ia ib:Nat}{y:Keyed}(v:MI O key (a.toList++b.toList) out.toList (a.toList.drop ia) (b.toList.drop ib))(hy:b[ib]? =some y)(h:∀x∈a.toList.drop ia,LE O key y x):
  MI O key (a.toList++b.toList) (out.push y).toList (a.toList.drop ia) (b.toList.drop (ib+1)):=by
 rw [drop_cons hy] at v;rw [vI];exact MI.kh (xs:= [y]) v λx hx=>by rw [fL.mp hx];exact h
theorem IV.rf{a b out:Array Keyed}{ia ib:Nat}{x:Keyed}(v:MI O key (a.toList++b.toList) out.toList (a.toList.drop ia) (b.toList.drop ib))(hx:a[ia]? =some x)(h:∀y∈b.toList.drop ib,LE O key x y):
  MI O key (a.toList++b.toList) (out.push x).toList (a.toList.drop (ia+1)) (b.toList.drop ib):=by
 rw [drop_cons hx] at v;rw [vI];exact MI.kg (xs:= [x]) v λx hx=>by rw [fL.mp hx];exact h
theorem IV.kh{a b out:Array Keyed}{ia ib k:Nat}(v:MI O key (a.toList++b.toList) out.toList (a.toList.drop ia) (b.toList.drop ib))(h:∀y∈(b.toList.drop ib).take k,∀x∈a.toList.drop ia,LE O key y x):
  MI O key (a.toList++b.toList) (out++b.extract ib (ib+k)).toList (a.toList.drop ia) (b.toList.drop (ib+k)):=by
 rw [lM b.toList ib k] at v;rw [hE,ext_toList,show ib+k-ib=k by omega]
 exact MI.kh v h
theorem IV.kg{a b out:Array Keyed}{ia ib k:Nat}(v:MI O key (a.toList++b.toList) out.toList (a.toList.drop ia) (b.toList.drop ib))(h:∀x∈(a.toList.drop ia).take k,∀y∈b.toList.drop ib,LE O key x y):
  MI O key (a.toList++b.toList) (out++a.extract ia (ia+k)).toList (a.toList.drop (ia+k)) (b.toList.drop ib):=by
 rw [lM a.toList ia k] at v;rw [hE,ext_toList,show ia+k-ia=k by omega]
 exact MI.kg v h
theorem IV.qI{a b out:Array Keyed}{ia ib:Nat}(v:MI O key (a.toList++b.toList) out.toList (a.toList.drop ia) (b.toList.drop ib))(h:ib=b.size):Res O key (a.toList++b.toList) (out++a.extract ia a.size++b.extract ib b.size).toList:=by
 have e:b.toList.drop ib= []:=List.drop_of_length_le (by rw [dA];omega)
 rw [hE,hE,jE,jE,e,hJ];rw [e] at v;exact v.A8
theorem IV.qH{a b out:Array Keyed}{ia ib:Nat}(v:MI O key (a.toList++b.toList) out.toList (a.toList.drop ia) (b.toList.drop ib))(h:ia=a.size):Res O key (a.toList++b.toList) (out++a.extract ia a.size++b.extract ib b.size).toList:=by
 have e:a.toList.drop ia= []:=List.drop_of_length_le (by rw [dA];omega)
 rw [hE,hE,jE,jE,e,hJ];rw [e] at v;exact v.swap.A8
theorem IV.last{a b out:Array Keyed}(T:kY O key S a b){ia ib:Nat}(v:MI O key (a.toList++b.toList) out.toList (a.toList.drop ia) (b.toList.drop ib))(h:ia+1=a.size):Res O key (a.toList++b.toList) (out++b.extract ib b.size++a.extract ia a.size).toList:=by
 rw [hE,hE,jE,jE];exact v.zk (T.zk h)
end
section
variable {O:KeyOrd} {key:Keyed→O.α} {S:Keyed→Prop} {k0:SortKind} {M:Model} {A:Around} {E:Value→Shared→Prop} {s:Shared} {st bB:SortSt} {a b:Array Keyed}
def Inv(O:KeyOrd)(key:Keyed→O.α)(a b:Array Keyed)(n:Nat)(out:Array Keyed)(ia ib:Nat):Prop:=MI O key (a.toList++b.toList) out.toList (a.toList.drop ia) (b.toList.drop ib)∧ia+1<a.size∧ib<b.size∧n≤ia+ib
def Fin{ρ:Type}(O:KeyOrd)(key:Keyed→O.α)(a b:Array Keyed)(n:Nat)(c:Option (Array Keyed)×Array Keyed×Nat×Nat×ρ):Prop:=
 (∃r,c.1=some r∧Res O key (a.toList++b.toList) r.toList)∨(c.1=none∧Inv O key a b n c.2.1 c.2.2.1 c.2.2.2.1)
def Out{ρ:Type}(O:KeyOrd)(key:Keyed→O.α)(a b:Array Keyed)(n:Nat)(r:ForInStep (Option (Array Keyed)×Array Keyed×Nat×Nat×ρ)):Prop:=match r with
 | .done c=>Fin O key a b n c
 | .yield c=>c.1=none∧Inv O key a b n c.2.1 c.2.2.1 c.2.2.2.1
def PY{ρ:Type}(O:KeyOrd)(key:Keyed→O.α)(a b:Array Keyed)(n:Nat)(r:ForInStep (Option (Array Keyed)×Array Keyed×Nat×Nat×ρ)):Prop:=match r with
 | .done c=>∃r,c.1=some r∧Res O key (a.toList++b.toList) r.toList
 | .yield c=>c.1=none∧Inv O key a b n c.2.1 c.2.2.1 c.2.2.2.1
theorem vo{n mg ac bc ia ib:Nat}{out:Array Keyed}(T:kY O key S a b)(g:GS bB st)(v:MI O key (a.toList++b.toList) out.toList (a.toList.drop ia) (b.toList.drop ib))(ha:ia+1<a.size)(hb:ib<b.size)(hn:n≤ia+ib)
  (hx:∀x,a[ia]? =some x→∀y∈b.toList.drop ib,LE O key x y):wpS M A E s (zr a b mg ac bc ia out ib) (λr ai=>GS bB ai∧Out O key a b n r) st:=by
 unfold zr;obtain ⟨x,ex,mx,_⟩:=bu (xs:=a) (i:=ia) (by omega)
 refine wpS_bind (bh ex ?_);have v':=IV.rf v ex (hx x ex);dsimp only
 by_cases h1:ia+1+1=a.size
 ·rw [if_pos (by simpa using h1)]
  exact wpS_pure ⟨g, .inl ⟨_,rfl,IV.last T v' h1⟩⟩
 ·rw [if_neg (by simpa using h1)]
  have iv:Inv O key a b n (out.push x) (ia+1) ib:=⟨v',by omega,hb,by omega⟩
  by_cases h2:(decide (ac<7)&&decide (bc<7))=true
  ·rw [if_pos h2]
   exact wpS_pure ⟨g, .inr ⟨rfl,iv⟩⟩
  ·rw [if_neg h2]
   exact wpS_pure ⟨g,rfl,iv⟩
theorem vn(C:fM O key S k0 M A E s)(hk:kindOf st=k0){n mg ac bc ia ib:Nat}{out:Array Keyed}(T:kY O key S a b)(g:GS bB st)(v:MI O key (a.toList++b.toList) out.toList (a.toList.drop ia) (b.toList.drop ib))(ha:ia+1<a.size)(hb:ib<b.size)(hn:n≤ia+ib)
  (hy:∀y,b[ib]? =some y→∀x∈a.toList.drop ia,LE O key y x):wpS M A E s (qU a b mg ac bc ib out ia) (λr ai=>GS bB ai∧Out O key a b n r) st:=by
 unfold qU;obtain ⟨y,ey,my,_⟩:=bu (xs:=b) (i:=ib) hb;refine wpS_bind (bh ey ?_);have v':=IV.rg v ey (hy y ey);dsimp only
 by_cases h1:ib+1=b.size
 ·rw [if_pos (by simpa using h1)]
  exact wpS_pure ⟨g, .inl ⟨_,rfl,IV.qI v' h1⟩⟩
 ·rw [if_neg (by simpa using h1)]
  obtain ⟨x,ex,mx,lx⟩:=bu (xs:=a) (i:=ia) (by omega)
  refine wpS_bind (bh ex ?_)
  have xle:∀z∈a.toList.drop ia,LE O key x z:=λz hz=>by
   obtain ⟨j,_,ej⟩:=fA hz;exact eX T.sa (by omega) lx ej
  have AS:∀j z,ib+1+j<b.size→b.toList[ib+1+j]? =some z→b[ib+1+j]?.getD (Value.none,Value.none)=z:=λj z hj e=>by rw [i7 e];rfl
  refine wpS_bind (fJ C (m9 T.mb (i:=ib+1) (n:=b.size-(ib+1)) (by omega)) (T.ma x mx) hk (by omega) (λi j cy hj h=>?_) λp hp pt pf=>?_)
  ·obtain ⟨yi,e1,_,l1⟩:=bu (xs:=b) (i:=ib+1+i) (by omega)
   obtain ⟨yj,e2,_,l2⟩:=bu (xs:=b) (i:=ib+1+j) (by omega)
   unfold cW at h ⊢;rw [if_pos rfl] at h ⊢;rw [e2] at h;rw [e1];exact KeyOrd.klt_of_kle_of_klt (eX T.sb (by omega) l1 l2) h
  ·have lo:∀y∈(b.toList.drop (ib+1)).take p,∀x∈a.toList.drop ia,LE O key y x:=λz hz u hu=>by
    obtain ⟨j,hj,hl,ej⟩:=dq hz;rw [dA] at hl
    have:=pt j hj
    unfold cW at this;rw [if_pos rfl,AS j z hl ej] at this;exact KeyOrd.kle_trans (KeyOrd.kle_of_klt this) (xle u hu)
   have hi:∀x',a[ia]? =some x'→∀y∈b.toList.drop (ib+1+p),LE O key x' y:=λx' nB z hz=>by
    rw [ex] at nB;cases nB;obtain ⟨j,hl,ej⟩:=fA hz;rw [dA] at hl
    have:=pf (p+j) (by omega) (by omega)
    unfold cW at this;rw [if_pos rfl,AS (p+j) z (by omega) (by rw [←ej];congr 1;omega)] at this
    exact this
   dsimp only
   by_cases ui:p>0
   ·rw [if_pos ui]
    have v2:=IV.kh v' lo
    by_cases h2:ib+1+p=b.size
    ·rw [if_pos (by simpa using h2)]
     exact wpS_pure ⟨g, .inl ⟨_,rfl,IV.qI v2 h2⟩⟩
    ·rw [if_neg (by simpa using h2)]
     exact vo T g v2 ha (by omega) (by omega) hi
   ·rw [if_neg ui]
    have:p=0:=by omega
    subst this;exact vo T g v' ha (by omega) (by omega) hi
theorem vj(C:fM O key S k0 M A E s)(hk:kindOf st=k0){n mg ac bc ia ib:Nat}{out:Array Keyed}(T:kY O key S a b)(g:GS bB st)(iv:Inv O key a b n out ia ib):wpS M A E s (oM a b bc ac ia ib out mg) (λr ai=>GS bB ai∧Out O key a b n r) st:=by
 obtain ⟨v,ha,hb,hn⟩:=iv;unfold oM;refine wpS_bind (nu λzT g1=>?_);have Bl:kindOf zT=k0:=g1.kind.trans hk;have g':=g.trans g1;obtain ⟨y,ey,my,ly⟩:=bu (xs:=b) (i:=ib) hb;refine wpS_bind (bh ey ?_)
 have yle:∀z∈b.toList.drop ib,LE O key y z:=λz hz=>by
  obtain ⟨j,_,ej⟩:=fA hz;exact eX T.sb (by omega) ly ej
 have nN:∀j z,ia+j<a.size→a.toList[ia+j]? =some z→a[ia+j]?.getD (Value.none,Value.none)=z:=λj z hj e=>by rw [i7 e];rfl
 refine wpS_bind (fJ C (m9 T.ma (i:=ia) (n:=a.size-ia) (by omega)) (T.mb y my) Bl (by omega) (λi j cy hj h=>?_) λp hp pt pf=>?_)
 ·obtain ⟨xi,e1,_,l1⟩:=bu (xs:=a) (i:=ia+i) (by omega)
  obtain ⟨xj,e2,_,l2⟩:=bu (xs:=a) (i:=ia+j) (by omega)
  unfold cW at h ⊢;rw [if_neg (by decide)] at h ⊢
  rw [e2] at h;rw [e1];have h':O.kle (key xj) (key y):=by unfold KeyOrd.kle;simpa using h
  have:=KeyOrd.kle_trans (eX T.sa (by omega) l1 l2) h'
  unfold KeyOrd.kle at this;simpa using this
 ·have lo:∀x∈(a.toList.drop ia).take p,∀y∈b.toList.drop ib,LE O key x y:=λz hz u hu=>by
   obtain ⟨j,hj,hl,ej⟩:=dq hz;rw [dA] at hl
   have:=pt j hj
   unfold cW at this;rw [if_neg (by decide),nN j z hl ej] at this
   have h':O.kle (key z) (key y):=by unfold KeyOrd.kle;simpa using this
   exact KeyOrd.kle_trans h' (yle u hu)
  have hi:∀y',b[ib]? =some y'→∀x∈a.toList.drop (ia+p),LE O key y' x:=λy' lO z hz=>by
   rw [ey] at lO;cases lO;obtain ⟨j,hl,ej⟩:=fA hz;rw [dA] at hl
   have:=pf (p+j) (by omega) (by omega)
   unfold cW at this;rw [if_neg (by decide),nN (p+j) z (by omega) (by rw [←ej];congr 1;omega)] at this
   exact KeyOrd.kle_of_klt (show O.blt _ _=true by simpa using this)
  dsimp only
  by_cases ui:p>0
  ·rw [if_pos ui]
   have v2:=IV.kg v lo
   by_cases h2:ia+p+1=a.size
   ·rw [if_pos (by simpa using h2)]
    exact wpS_pure ⟨g', .inl ⟨_,rfl,IV.last T v2 h2⟩⟩
   ·rw [if_neg (by simpa using h2)]
    by_cases h3:ia+p=a.size
    ·rw [if_pos (by simpa using h3)]
     exact wpS_pure ⟨g', .inl ⟨_,rfl,IV.qH v2 h3⟩⟩
    ·rw [if_neg (by simpa using h3)]
     exact vn C Bl T g' v2 (by omega) hb (by omega) hi
  ·rw [if_neg ui]
   have:p=0:=by omega
   subst this;exact vn C Bl T g' v ha hb hn hi
theorem Eo(C:fM O key S k0 M A E s)(hk:kindOf st=k0){n:Nat}(T:kY O key S a b)(g:GS bB st)(c:Option (Array Keyed)×Array Keyed×Nat×Nat×Nat×Nat×Nat)(iv:Inv O key a b n c.2.1 c.2.2.1 c.2.2.2.1):
  wpS M A E s (zu a b c) (λr ai=>GS bB ai∧Out O key a b n r) st:=by
 unfold zu
 by_cases h:c.2.2.2.2.1>1
 ·rw [if_pos h];exact vj C hk T g iv
 ·rw [if_neg h];exact vj C hk T g iv
theorem En(C:fM O key S k0 M A E s)(hk:kindOf st=k0){n mg:Nat}(T:kY O key S a b)(g:GS bB st)(c:Option (Array Keyed)×Array Keyed×Nat×Nat×Nat×Nat)(iv:Inv O key a b n c.2.1 c.2.2.1 c.2.2.2.1):
  wpS M A E s (zt a b mg c) (λr ai=>GS bB ai∧Out O key a b (n+1) r) st:=by
 obtain ⟨c1,out,ia,ib,ac,bc⟩:=c;obtain ⟨v,ha,hb,hn⟩:=iv;dsimp only at v ha hb hn;unfold zt;dsimp only;obtain ⟨y,ey,my,ly⟩:=bu (xs:=b) (i:=ib) hb;obtain ⟨x,ex,mx,lx⟩:=bu (xs:=a) (i:=ia) (by omega)
 refine wpS_bind (bh ey (wpS_bind (bh ex (wpS_bind (C _ _ _ _ (T.mb y my) (T.ma x mx) hk ?_)))));cases e:O.blt (key y) (key x) with
 |true=>
  dsimp only;rw [if_pos rfl];refine wpS_bind (bh ey ?_)
  have v':=IV.rg v ey λz hz=>by
   obtain ⟨j,_,ej⟩:=fA hz;exact KeyOrd.kle_trans (KeyOrd.kle_of_klt e) (eX T.sa (by omega) lx ej)
  by_cases h1:ib+1=b.size
  ·rw [if_pos (by simpa using h1)]
   exact wpS_pure ⟨g, .inl ⟨_,rfl,IV.qI v' h1⟩⟩
  ·rw [if_neg (by simpa using h1)]
   have iv:Inv O key a b (n+1) (out.push y) ia (ib+1):=⟨v',by omega,by omega,by omega⟩
   by_cases h2:bc+1≥mg
   ·rw [if_pos h2];exact wpS_pure ⟨g, .inr ⟨rfl,iv⟩⟩
   ·rw [if_neg h2];exact wpS_pure ⟨g,rfl,iv⟩
 |false=>
  dsimp only;rw [if_neg (by decide)]
  refine wpS_bind (bh ex ?_)
  have v':=IV.rf v ex λz hz=>by
   obtain ⟨j,_,ej⟩:=fA hz;exact KeyOrd.kle_trans e (eX T.sb (by omega) ly ej)
  by_cases h1:ia+1+1=a.size
  ·rw [if_pos (by simpa using h1)]
   exact wpS_pure ⟨g, .inl ⟨_,rfl,IV.last T v' h1⟩⟩
  ·rw [if_neg (by simpa using h1)]
   have iv:Inv O key a b (n+1) (out.push x) (ia+1) ib:=⟨v',by omega,by omega,by omega⟩
   by_cases h2:ac+1≥mg
   ·rw [if_pos h2];exact wpS_pure ⟨g, .inr ⟨rfl,iv⟩⟩
   ·rw [if_neg h2];exact wpS_pure ⟨g,rfl,iv⟩
theorem Inv.le{n m:Nat}{out:Array Keyed}{ia ib:Nat}(h:Inv O key a b n out ia ib)(hm:m≤n):Inv O key a b m out ia ib:=⟨h.1,h.2.1,h.2.2.1,kX hm h.2.2.2⟩
theorem Aq(C:fM O key S k0 M A E s)(hk:kindOf st=k0){n:Nat}(T:kY O key S a b)(g:GS bB st)(zc:kindOf bB=k0)(c:Option (Array Keyed)×Array Keyed×Nat×Nat×Nat)(iv:Inv O key a b n c.2.1 c.2.2.1 c.2.2.2.1):
  wpS M A E s (pR a b c) (λr ai=>GS bB ai∧PY O key a b (n+1) r) st:=by
 have Sj:0<a.size+b.size:=by have:=T.na;omega
 unfold pR;refine wpS_bind (wpS_mono (wpS_forRange (I:=λ(x:Nat)(c':Option (Array Keyed)×Array Keyed×Nat×Nat×Nat×Nat)(ai:SortSt)=>GS bB ai∧c'.1=none∧Inv O key a b (n+min x 1) c'.2.1 c'.2.2.1 c'.2.2.2.1) (Q:=λc' ai=>GS bB ai∧Fin O key a b (n+1) c') ?step ?fin ⟨g,rfl,iv.le (by omega)⟩) ?post)
 case fin=>
  rintro c' ai ⟨g',h1,h2⟩;exact ⟨g', .inr ⟨h1,h2.le (by omega)⟩⟩
 case step=>
  rintro x c' ai _ _ ⟨g',h1,h2⟩;refine wpS_mono (En C (g'.kind.trans zc) T g' c' h2) λr cu ⟨lQ,o⟩=>?_;cases r with
  |done d=>
   refine ⟨lQ,?_⟩
   rcases o with o| ⟨o1,o2⟩
   ·exact .inl o
   ·exact .inr ⟨o1,o2.le (by omega)⟩
  |yield d=>exact ⟨lQ,o.1,o.2.le (by omega)⟩
 case post=>
  rintro ⟨t1,t2⟩ ai ⟨g',o⟩
  rcases o with ⟨r,e,res⟩ | ⟨e,OP⟩
  ·dsimp only at e
   subst e;exact wpS_pure ⟨g',r,rfl,res⟩
  ·dsimp only at e
   subst e;dsimp only;refine wpS_bind (wpS_lift (wpAny_rule ⟨rfl,?_⟩));refine wpS_bind (wpS_mono (wpS_forRange (I:=λ(x:Nat)(c':Option (Array Keyed)×Array Keyed×Nat×Nat×Nat×Nat×Nat)(ai:SortSt)=>GS bB ai∧c'.1=none∧Inv O key a b (n+1) c'.2.1 c'.2.2.1 c'.2.2.2.1) (Q:=λc' ai=>GS bB ai∧Fin O key a b (n+1) c') ?step2 ?fin2 ⟨g',rfl,OP⟩) ?post2)
   case fin2=>
    rintro c' ai ⟨g',h1,h2⟩;exact ⟨g', .inr ⟨h1,h2⟩⟩
   case step2=>
    rintro x c' ai _ _ ⟨g',h1,h2⟩;refine wpS_mono (Eo C (g'.kind.trans zc) T g' c' h2) λr cu ⟨lQ,o⟩=>?_;cases r with
    |done d=>exact ⟨lQ,o⟩
    |yield d=>exact ⟨lQ,o⟩
   case post2=>
    rintro ⟨u1,u2⟩ ai ⟨g',o⟩
    rcases o with ⟨r,e,res⟩ | ⟨e,Io⟩
    ·dsimp only at e
     subst e;exact wpS_pure ⟨g',r,rfl,res⟩
    ·dsimp only at e
     subst e;refine wpS_bind (nu λzT g1=>wpS_pure ⟨g'.trans g1,rfl,Io⟩)
theorem Au(C:fM O key S k0 M A E s)(hk:kindOf st=k0)(T:kY O key S a b){Q:Array Keyed→SortSt→Prop}(q:∀r ai,GS st ai→Res O key (a.toList++b.toList) r.toList→Q r ai):wpS M A E s (m7 a b) Q st:=by
 rw [zy];refine wpS_bind (wpS_lift (wpAny_rule ⟨rfl,?_⟩));obtain ⟨y,ey,my,ly⟩:=bu (xs:=b) (i:=0) T.nb;refine wpS_bind (bh ey ?_);have v0:MI O key (a.toList++b.toList) (#[]:Array Keyed).toList (a.toList.drop 0) (b.toList.drop 0):=⟨by simp,by simp,by simpa using T.sa,by simpa using T.sb,by simp⟩
 have v1:=IV.rg v0 ey (by simpa using T.first y ey)
 have e1:(#[]:Array Keyed).push y= #[y]:=rfl;rw [e1] at v1
 by_cases h1:1=b.size
 ·rw [if_pos (by simpa using h1)]
  exact wpS_pure (q _ _ (GS.refl _) (IV.qI v1 h1))
 ·rw [if_neg (by simpa using h1)]
  by_cases h2:0+1=a.size
  ·rw [if_pos (by simpa using h2)]
   exact wpS_pure (q _ _ (GS.refl _) (IV.last T v1 h2))
  ·rw [if_neg (by simpa using h2)]
   refine wpS_bind (wpS_get ?_);have na:=T.na;have nb:=T.nb;refine wpS_bind (wpS_mono (wpS_forRange (I:=λ(x:Nat)(c':Option (Array Keyed)×Array Keyed×Nat×Nat×Nat)(ai:SortSt)=>GS st ai∧c'.1=none∧Inv O key a b (x+1) c'.2.1 c'.2.2.1 c'.2.2.2.1) (Q:=λc' ai=>GS st ai∧∃r,c'.1=some r∧Res O key (a.toList++b.toList) r.toList) ?step ?fin ⟨GS.refl _,rfl,v1,by show 0+1<a.size;omega,by show 1<b.size;omega,by show 0+1≤0+1;omega⟩) ?post)
   case fin=>
    rintro c' ai ⟨g',h1,h2⟩
    have:=h2.2.2.2
    have:=h2.2.1
    have:=h2.2.2.1
    omega
   case step=>
    rintro x c' ai _ _ ⟨g',h1,h2⟩;refine wpS_mono (Aq C (g'.kind.trans hk) T g' hk c' h2) λr cu ⟨lQ,o⟩=>?_;cases r with
    |done d=>exact ⟨lQ,o⟩
    |yield d=>exact ⟨lQ,o⟩
   case post=>
    rintro ⟨c1,c2⟩ ai ⟨g',r,e,res⟩;dsimp only at e;subst e;exact wpS_pure (q r ai g' res)
end
theorem v8(a b:Array Keyed):m6 a b=(do
 rule "list.sort.merge-hi"
 let total:=a.size+b.size
 let done (out:Array Keyed) (na nb:Nat):=a.extract 0 na++b.extract 0 nb++out.reverse
 let mX (out:Array Keyed) (na nb:Nat):=b.extract 0 nb++a.extract 0 na++out.reverse
 let mut na:=a.size-1
 let mut nb:=b.size
 let mut out:Array Keyed:= #[←elem' a na]
 if na==0 then return done out na nb
 if nb==1 then return mX out na nb
 let mut minGallop:=gallopOf (←get)
 for _ in [0:total] do
  let mut acount:=0
  let mut bcount:=0
  for _ in [0:total] do
   let some Cu ←lt' (←elem' b (nb-1)) (←elem' a (na-1)) |return done out na nb
   if Cu then
    na:=na-1;out:=out.push (←elem' a na);acount:=acount+1;bcount:=0
    if na==0 then return done out na nb
    if acount≥minGallop then break
   else
    nb:=nb-1;out:=out.push (←elem' b nb);bcount:=bcount+1;acount:=0
    if nb==1 then return mX out na nb
    if bcount≥minGallop then break
  rule "list.sort.gallop"
  minGallop:=minGallop+1
  for _ in [0:total] do
   if minGallop>1 then minGallop:=minGallop-1
   setMinGallop' minGallop
   let some at_ ←dM false (←elem' b (nb-1)) a 0 na (na-1) |return done out na nb
   let k:=na-at_
   acount:=k
   if k>0 then
    out:=out++(a.extract at_ na).reverse;na:=at_
    if na==0 then return done out na nb
   nb:=nb-1;out:=out.push (←elem' b nb)
   if nb==1 then return mX out na nb
   let some at_ ←dM true (←elem' a (na-1)) b 0 nb (nb-1) |return done out na nb
   let k:=nb-at_
   bcount:=k
   if k>0 then
    out:=out++(b.extract at_ nb).reverse;nb:=at_
    if nb==1 then return mX out na nb
    if nb==0 then return done out na nb
   na:=na-1;out:=out.push (←elem' a na)
   if na==0 then return done out na nb
   if acount<7&&bcount<7 then break
  minGallop:=minGallop+1
  setMinGallop' minGallop
 unsupported "internal:list.sort.merge-bound"):=rfl
abbrev S7:=Option (Array Keyed)×Nat×Nat×Array Keyed×Nat×Nat×Nat
abbrev S6:=Option (Array Keyed)×Nat×Nat×Array Keyed×Nat×Nat
abbrev S5:=Option (Array Keyed)×Nat×Nat×Array Keyed×Nat
def gS(a b out:Array Keyed)(na nb:Nat):Array Keyed:=a.extract 0 na++b.extract 0 nb++out.reverse
def mZ(a b out:Array Keyed)(na nb:Nat):Array Keyed:=b.extract 0 nb++a.extract 0 na++out.reverse
def y9(a b:Array Keyed)(mg ac bc na:Nat)(out:Array Keyed)(nb:Nat):StateT SortSt Sem (ForInStep S7):=do
 let x ←elem' a (na-1)
 if (na-1==0)=true then pure (ForInStep.done (some (gS a b (out.push x) (na-1) nb),na-1,nb,out.push x,mg,ac,bc))
 else if (decide (ac<7)&&decide (bc<7))=true then pure (ForInStep.done (none,na-1,nb,out.push x,mg,ac,bc))
 else pure (ForInStep.yield (none,na-1,nb,out.push x,mg,ac,bc))
def qL(a b:Array Keyed)(mg ac bc nb:Nat)(out:Array Keyed)(na:Nat):StateT SortSt Sem (ForInStep S7):=do
 let y ←elem' b (nb-1)
 if (nb-1==1)=true then pure (ForInStep.done (some (mZ a b (out.push y) na (nb-1)),na,nb-1,out.push y,mg,ac,bc))
 else do
  let x ←elem' a (na-1)
  let __x ←dM true x b 0 (nb-1) (nb-1-1)
  match __x with
  |some p=>
   if nb-1-p>0 then
    if (p==1)=true then pure (ForInStep.done (some (mZ a b (out.push y++(b.extract p (nb-1)).reverse) na p),na,p,out.push y++(b.extract p (nb-1)).reverse,mg,ac,nb-1-p))
    else if (p==0)=true then pure (ForInStep.done (some (gS a b (out.push y++(b.extract p (nb-1)).reverse) na p),na,p,out.push y++(b.extract p (nb-1)).reverse,mg,ac,nb-1-p))
    else y9 a b mg ac (nb-1-p) na (out.push y++(b.extract p (nb-1)).reverse) p
   else y9 a b mg ac (nb-1-p) na (out.push y) (nb-1)
  |_=>pure (ForInStep.done (some (gS a b (out.push y) na (nb-1)),na,nb-1,out.push y,mg,ac,bc))
def ug(a b:Array Keyed)(bc ac na nb:Nat)(out:Array Keyed)(mg:Nat):StateT SortSt Sem (ForInStep S7):=do
 setMinGallop' mg
 let y ←elem' b (nb-1)
 let __x ←dM false y a 0 na (na-1)
 match __x with
 |some p=>
  if na-p>0 then
   if (p==0)=true then pure (ForInStep.done (some (gS a b (out++(a.extract p na).reverse) p nb),p,nb,out++(a.extract p na).reverse,mg,na-p,bc))
   else qL a b mg (na-p) bc nb (out++(a.extract p na).reverse) p
  else qL a b mg (na-p) bc nb out na
 |_=>pure (ForInStep.done (some (gS a b out na nb),na,nb,out,mg,ac,bc))
def zb(a b:Array Keyed)(c:S7):StateT SortSt Sem (ForInStep S7):=
 if c.2.2.2.2.1>1 then ug a b c.2.2.2.2.2.2 c.2.2.2.2.2.1 c.2.1 c.2.2.1 c.2.2.2.1 (c.2.2.2.2.1-1) else ug a b c.2.2.2.2.2.2 c.2.2.2.2.2.1 c.2.1 c.2.2.1 c.2.2.2.1 c.2.2.2.2.1
def za(a b:Array Keyed)(mg:Nat)(c:S6):StateT SortSt Sem (ForInStep S6):=do
 let y ←elem' b (c.2.2.1-1)
 let x ←elem' a (c.2.1-1)
 let __x ←lt' y x
 match __x with
 |some Cu=>
  if Cu=true then do
   let x ←elem' a (c.2.1-1)
   if (c.2.1-1==0)=true then pure (ForInStep.done (some (gS a b (c.2.2.2.1.push x) (c.2.1-1) c.2.2.1),c.2.1-1,c.2.2.1,c.2.2.2.1.push x,c.2.2.2.2.1+1,0))
   else if c.2.2.2.2.1+1≥mg then pure (ForInStep.done (none,c.2.1-1,c.2.2.1,c.2.2.2.1.push x,c.2.2.2.2.1+1,0))
   else pure (ForInStep.yield (none,c.2.1-1,c.2.2.1,c.2.2.2.1.push x,c.2.2.2.2.1+1,0))
  else do
   let y ←elem' b (c.2.2.1-1)
   if (c.2.2.1-1==1)=true then pure (ForInStep.done (some (mZ a b (c.2.2.2.1.push y) c.2.1 (c.2.2.1-1)),c.2.1,c.2.2.1-1,c.2.2.2.1.push y,0,c.2.2.2.2.2+1))
   else if c.2.2.2.2.2+1≥mg then pure (ForInStep.done (none,c.2.1,c.2.2.1-1,c.2.2.2.1.push y,0,c.2.2.2.2.2+1))
   else pure (ForInStep.yield (none,c.2.1,c.2.2.1-1,c.2.2.2.1.push y,0,c.2.2.2.2.2+1))
 |_=>pure (ForInStep.done (some (gS a b c.2.2.2.1 c.2.1 c.2.2.1),c.2.1,c.2.2.1,c.2.2.2.1,c.2.2.2.2.1,c.2.2.2.2.2))
def pJ(a b:Array Keyed)(__s:S5):StateT SortSt Sem (ForInStep S5):=do
 let __t ←forIn [0:a.size+b.size] ((none,__s.2.1,__s.2.2.1,__s.2.2.2.1,0,0):S6) λ_ c=>za a b __s.2.2.2.2 c
 match __t.1 with
 |some r=>pure (ForInStep.done (some r,__t.2.1,__t.2.2.1,__t.2.2.2.1,__s.2.2.2.2))
 |none=>do
  liftM (rule "list.sort.gallop")
  let __u ←forIn [0:a.size+b.size] ((none,__t.2.1,__t.2.2.1,__t.2.2.2.1,__s.2.2.2.2+1,__t.2.2.2.2.1,__t.2.2.2.2.2):S7) λ_ c=>zb a b c
  match __u.1 with
  |some r=>pure (ForInStep.done (some r,__u.2.1,__u.2.2.1,__u.2.2.2.1,__u.2.2.2.2.1))
  |none=>do
   setMinGallop' (__u.2.2.2.2.1+1)
   pure (ForInStep.yield (none,__u.2.1,__u.2.2.1,__u.2.2.2.1,__u.2.2.2.2.1+1))
theorem zx(a b:Array Keyed):m6 a b=(do
 liftM (rule "list.sort.merge-hi")
 let x ←elem' a (a.size-1)
 if (a.size-1==0)=true then pure (gS a b #[x] (a.size-1) b.size)
 else if (b.size==1)=true then pure (mZ a b #[x] (a.size-1) b.size)
 else do
  let __do_lift ←get
  let __s ←forIn [0:a.size+b.size] ((none,a.size-1,b.size, #[x],gallopOf __do_lift):S5) λ_ c=>pJ a b c
  match __s.1 with
  |some r=>pure r
  |none=>liftM (unsupported (α:=Array Keyed) "internal:list.sort.merge-bound")):=by
 rw [v8];dsimp only;refine bnd rfl λ_=>bnd rfl λy=>?_;refine congrArg (ite _ _) (congrArg (ite _ _) ?_);refine bnd rfl λg=>bnd (y3 λ_ c=>?_) λu=>?_
 ·unfold pJ
  refine bnd (y3 λ_ t=>?_) λt=>?_
  ·unfold za
   refine bnd rfl λ_=>bnd rfl λ_=>bnd rfl λz=>?_;cases z<;>rfl
  ·obtain ⟨t1,t2⟩:=t
   cases t1 with
   |some r=>rfl
   |none=>
    dsimp only;refine bnd rfl λ_=>bnd (y3 λ_ u=>?_) λu=>?_
    ·unfold zb
     refine ee (λ_=>?_) (λ_=>?_)
     all_goals
      unfold ug;refine bnd rfl λ_=>bnd rfl λ_=>bnd rfl λz=>?_;cases z with
      |none=>rfl
      |some k=>
       dsimp only;refine ee (λ_=>?_) (λ_=>?_)
       ·refine ee (λ_=>rfl) (λ_=>?_)
        unfold qL;refine bnd rfl λ_=>ee (λ_=>rfl) (λ_=>bnd rfl λ_=>bnd rfl λz=>?_);cases z with
        |none=>rfl
        |some k=>rfl
       ·unfold qL
        refine bnd rfl λ_=>ee (λ_=>rfl) (λ_=>bnd rfl λ_=>bnd rfl λz=>?_);cases z with
        |none=>rfl
        |some k=>rfl
    ·obtain ⟨u1,u2⟩:=u
     cases u1<;>rfl
 ·obtain ⟨u1,u2⟩:=u
  cases u1<;>rfl
def Mt(O:KeyOrd):KeyOrd:={α:=O.α,blt:=λa b=>O.blt b a,irrefl:=O.irrefl,trans:=λa b c h1 h2=>O.trans _ _ _ h2 h1,negTrans:=λa b c h=>(O.negTrans c b a h).symm,total:=λa b h1 h2=>O.total a b h2 h1}
section
variable {O:KeyOrd} {key:Keyed→O.α} {S:Keyed→Prop} {k0:SortKind} {M:Model} {A:Around} {E:Value→Shared→Prop} {s:Shared} {st bB:SortSt} {a b:Array Keyed}
abbrev MJ(O:KeyOrd)(key:Keyed→O.α)(a b out:Array Keyed)(na nb:Nat):Prop:=MI (Mt O) key (a.toList++b.toList) out.toList (a.toList.take na).reverse (b.toList.take nb).reverse
theorem rh{l r:List Keyed}(h:Res (Mt O) key l r.reverse):Res O key l r:=
 ⟨(List.reverse_perm r).symm.trans h.1,by
   have:=List.pairwise_reverse.mp h.2
   exact this.imp λh=>h⟩
theorem wK(xs:Array Keyed)(n:Nat):(xs.extract 0 n).toList=xs.toList.take n:=by rw [ext_toList];simp
theorem xq{xs:Array Keyed}{n:Nat}{x:Keyed}(hn:1≤n)(h:xs[n-1]? =some x):(xs.toList.take n).reverse=x::(xs.toList.take (n-1)).reverse:=by
 have h':=jK h;obtain ⟨bN,e⟩:=eO.mp h'
 have:xs.toList.take n=xs.toList.take (n-1)++ [x]:=by
  have:=List.take_succ_eq_append_getElem bN
  rw [show n-1+1=n by omega,e] at this
  exact this
 rw [this,vF];rfl
theorem mG(l:List Keyed){p n:Nat}(h:p≤n):l.take n=l.take p++(l.drop p).take (n-p):=by
 conv=>lhs;rw [←gO p (l.take n)]
 rw [List.take_take,show min p n=p by omega,List.drop_take]
theorem fB{l:List Keyed}{n:Nat}{x:Keyed}(h:x∈l.take n):∃j,j<n∧j<l.length∧l[j]? =some x:=by
 have:=dq (l:=l) (i:=0) (k:=n) (x:=x) (by simpa using h)
 obtain ⟨j,h1,h2,h3⟩:=this;exact ⟨j,h1,by simpa using h2,by simpa using h3⟩
theorem MJ.rf{out:Array Keyed}{na nb:Nat}{x:Keyed}(v:MJ O key a b out na nb)(hn:1≤na)(hx:a[na-1]? =some x)(h:∀y∈b.toList.take nb,LE O key y x):MJ O key a b (out.push x) (na-1) nb:=by
 unfold MJ at v ⊢;rw [xq hn hx] at v;rw [vI];exact MI.kg (xs:= [x]) v λz hz y hy=>by rw [fL.mp hz];exact h y (oe.mp hy)
theorem MJ.rg{out:Array Keyed}{na nb:Nat}{y:Keyed}(v:MJ O key a b out na nb)(hn:1≤nb)(hy:b[nb-1]? =some y)(h:∀x∈a.toList.take na,LE O key x y):MJ O key a b (out.push y) na (nb-1):=by
 unfold MJ at v ⊢;rw [xq hn hy] at v;rw [vI];exact MI.kh (xs:= [y]) v λz hz x hx=>by rw [fL.mp hz];exact h x (oe.mp hx)
theorem MJ.kg{out:Array Keyed}{na nb p:Nat}(v:MJ O key a b out na nb)(hp:p≤na)(h:∀x∈(a.toList.drop p).take (na-p),∀y∈b.toList.take nb,LE O key y x):MJ O key a b (out++(a.extract p na).reverse) p nb:=by
 unfold MJ at v ⊢;rw [mG a.toList hp,vF] at v;rw [hE,Cp,ext_toList];exact MI.kg v λx hx y hy=>h x (oe.mp hx) y (oe.mp hy)
theorem MJ.kh{out:Array Keyed}{na nb p:Nat}(v:MJ O key a b out na nb)(hp:p≤nb)(h:∀y∈(b.toList.drop p).take (nb-p),∀x∈a.toList.take na,LE O key x y):MJ O key a b (out++(b.extract p nb).reverse) na p:=by
 unfold MJ at v ⊢;rw [mG b.toList hp,vF] at v;rw [hE,Cp,ext_toList];exact MI.kh v λx hx y hy=>h x (oe.mp hx) y (oe.mp hy)
theorem MJ.qH{out:Array Keyed}{nb:Nat}(v:MJ O key a b out 0 nb):Res O key (a.toList++b.toList) (gS a b out 0 nb).toList:=by
 refine rh ?_;unfold gS MJ at*;rw [hE,hE,wK,wK,Cp,vx,mN,vF,List.reverse_reverse];rw [vx,List.reverse_nil] at v;exact v.swap.A8
theorem MJ.qI{out:Array Keyed}{na:Nat}(v:MJ O key a b out na 0):Res O key (a.toList++b.toList) (gS a b out na 0).toList:=by
 refine rh ?_;unfold gS MJ at*;rw [hE,hE,wK,wK,Cp,vx,hJ,vF,List.reverse_reverse];rw [vx,List.reverse_nil] at v;exact v.A8
theorem MJ.first(T:kY O key S a b){out:Array Keyed}{na:Nat}(v:MJ O key a b out na 1):Res O key (a.toList++b.toList) (mZ a b out na 1).toList:=by
 refine rh ?_;have h:=v.swap.zk λx hx y hy=>?_
 ·unfold mZ
  rw [hE,hE,wK,wK,Cp,vF,List.reverse_reverse,vF,←kR];exact h
 ·obtain ⟨j,h1,_,e⟩:=fB (oe.mp hy)
  have:j=0:=by omega
  subst this;exact T.first y (i7 e) x (vv (oe.mp hx))
def nv(O:KeyOrd)(key:Keyed→O.α)(a b:Array Keyed)(n:Nat)(na nb:Nat)(out:Array Keyed):Prop:=MJ O key a b out na nb∧1≤na∧na≤a.size∧2≤nb∧nb≤b.size∧n+na+nb≤a.size+b.size
def M6{ρ:Type}(O:KeyOrd)(key:Keyed→O.α)(a b:Array Keyed)(n:Nat)(c:Option (Array Keyed)×Nat×Nat×Array Keyed×ρ):Prop:=
 (∃r,c.1=some r∧Res O key (a.toList++b.toList) r.toList)∨(c.1=none∧nv O key a b n c.2.1 c.2.2.1 c.2.2.2.1)
def GR{ρ:Type}(O:KeyOrd)(key:Keyed→O.α)(a b:Array Keyed)(n:Nat)(r:ForInStep (Option (Array Keyed)×Nat×Nat×Array Keyed×ρ)):Prop:=match r with
 | .done c=>M6 O key a b n c
 | .yield c=>c.1=none∧nv O key a b n c.2.1 c.2.2.1 c.2.2.2.1
def PX{ρ:Type}(O:KeyOrd)(key:Keyed→O.α)(a b:Array Keyed)(n:Nat)(r:ForInStep (Option (Array Keyed)×Nat×Nat×Array Keyed×ρ)):Prop:=match r with
 | .done c=>∃r,c.1=some r∧Res O key (a.toList++b.toList) r.toList
 | .yield c=>c.1=none∧nv O key a b n c.2.1 c.2.2.1 c.2.2.2.1
theorem vh{n mg ac bc na nb:Nat}{out:Array Keyed}(g:GS bB st)(v:MJ O key a b out na nb)(h1:1≤na)(h2:na≤a.size)(h3:2≤nb)(h4:nb≤b.size)(hn:n+na+nb≤a.size+b.size)
  (hx:∀x,a[na-1]? =some x→∀y∈b.toList.take nb,LE O key y x):wpS M A E s (y9 a b mg ac bc na out nb) (λr ai=>GS bB ai∧GR O key a b n r) st:=by
 unfold y9;obtain ⟨x,ex,mx,_⟩:=bu (xs:=a) (i:=na-1) (by omega)
 refine wpS_bind (bh ex ?_);have v':=MJ.rf v h1 ex (hx x ex)
 by_cases e:na-1=0
 ·rw [if_pos (by simpa using e)]
  rw [e] at v' ⊢;exact wpS_pure ⟨g, .inl ⟨_,rfl,v'.qH⟩⟩
 ·rw [if_neg (by simpa using e)]
  have iv:nv O key a b n (na-1) nb (out.push x):=⟨v',by omega,by omega,h3,h4,by omega⟩
  by_cases h2:(decide (ac<7)&&decide (bc<7))=true
  ·rw [if_pos h2]
   exact wpS_pure ⟨g, .inr ⟨rfl,iv⟩⟩
  ·rw [if_neg h2]
   exact wpS_pure ⟨g,rfl,iv⟩
theorem vg(C:fM O key S k0 M A E s)(hk:kindOf st=k0){n mg ac bc na nb:Nat}{out:Array Keyed}(T:kY O key S a b)(g:GS bB st)(v:MJ O key a b out na nb)(h1:1≤na)(h2:na≤a.size)(h3:2≤nb)(h4:nb≤b.size)(hn:n+na+nb≤a.size+b.size)
  (hy:∀y,b[nb-1]? =some y→∀x∈a.toList.take na,LE O key x y):wpS M A E s (qL a b mg ac bc nb out na) (λr ai=>GS bB ai∧GR O key a b n r) st:=by
 unfold qL;obtain ⟨y,ey,my,_⟩:=bu (xs:=b) (i:=nb-1) (by omega)
 refine wpS_bind (bh ey ?_);have v':=MJ.rg v (by omega) ey (hy y ey)
 by_cases e:nb-1=1
 ·rw [if_pos (by simpa using e)]
  rw [e] at v' ⊢;exact wpS_pure ⟨g, .inl ⟨_,rfl,MJ.first T v'⟩⟩
 ·rw [if_neg (by simpa using e)]
  obtain ⟨x,ex,mx,lx⟩:=bu (xs:=a) (i:=na-1) (by omega)
  refine wpS_bind (bh ex ?_)
  have xge:∀z∈a.toList.take na,LE O key z x:=λz hz=>by
   obtain ⟨j,hj,_,ej⟩:=fB hz;exact eX T.sa (by omega) ej lx
  have AS:∀j z,b.toList[j]? =some z→b[0+j]?.getD (Value.none,Value.none)=z:=λj z e=>by rw [mL,i7 e];rfl
  refine wpS_bind (fJ C (m9 T.mb (i:=0) (n:=nb-1) (by omega)) (T.ma x mx) hk (by omega) (λi j cy hj h=>?_) λp hp pt pf=>?_)
  ·obtain ⟨yi,e1,_,l1⟩:=bu (xs:=b) (i:=0+i) (by omega)
   obtain ⟨yj,e2,_,l2⟩:=bu (xs:=b) (i:=0+j) (by omega)
   unfold cW at h ⊢;rw [if_pos rfl] at h ⊢;rw [e2] at h;rw [e1];exact KeyOrd.klt_of_kle_of_klt (eX T.sb (by omega) l1 l2) h
  ·have hi:∀y∈(b.toList.drop p).take (nb-1-p),∀x∈a.toList.take na,LE O key x y:=λz hz u hu=>by
    obtain ⟨j,hj,hl,ej⟩:=dq hz
    have:=pf (p+j) (by omega) (by omega)
    unfold cW at this;rw [if_pos rfl,AS (p+j) z ej] at this;exact KeyOrd.kle_trans (xge u hu) this
   have lo:∀x',a[na-1]? =some x'→∀y∈b.toList.take p,LE O key y x':=λx' nB z hz=>by
    rw [ex] at nB;cases nB;obtain ⟨j,hj,_,ej⟩:=fB hz
    have:=pt j hj
    unfold cW at this;rw [if_pos rfl,AS j z ej] at this;exact KeyOrd.kle_of_klt this
   dsimp only
   by_cases ui:nb-1-p>0
   ·rw [if_pos ui]
    have v2:=MJ.kh v' hp hi
    by_cases e1:p=1
    ·rw [if_pos (by simpa using e1)]
     subst e1;exact wpS_pure ⟨g, .inl ⟨_,rfl,MJ.first T v2⟩⟩
    ·rw [if_neg (by simpa using e1)]
     by_cases e2:p=0
     ·rw [if_pos (by simpa using e2)]
      subst e2;exact wpS_pure ⟨g, .inl ⟨_,rfl,v2.qI⟩⟩
     ·rw [if_neg (by simpa using e2)]
      exact vh g v2 h1 h2 (by omega) (by omega) (by omega) lo
   ·rw [if_neg ui]
    have:p=nb-1:=by omega
    subst this;exact vh g v' h1 h2 (by omega) (by omega) (by omega) lo
theorem vf(C:fM O key S k0 M A E s)(hk:kindOf st=k0){n mg ac bc na nb:Nat}{out:Array Keyed}(T:kY O key S a b)(g:GS bB st)(iv:nv O key a b n na nb out):wpS M A E s (ug a b bc ac na nb out mg) (λr ai=>GS bB ai∧GR O key a b n r) st:=by
 obtain ⟨v,h1,h2,h3,h4,hn⟩:=iv;unfold ug;refine wpS_bind (nu λzT g1=>?_);have Bl:kindOf zT=k0:=g1.kind.trans hk;have g':=g.trans g1;obtain ⟨y,ey,my,ly⟩:=bu (xs:=b) (i:=nb-1) (by omega)
 refine wpS_bind (bh ey ?_)
 have yge:∀z∈b.toList.take nb,LE O key z y:=λz hz=>by
  obtain ⟨j,hj,_,ej⟩:=fB hz;exact eX T.sb (by omega) ej ly
 have nN:∀j z,a.toList[j]? =some z→a[0+j]?.getD (Value.none,Value.none)=z:=λj z e=>by rw [mL,i7 e];rfl
 refine wpS_bind (fJ C (m9 T.ma (i:=0) (n:=na) (by omega)) (T.mb y my) Bl (by omega) (λi j cy hj h=>?_) λp hp pt pf=>?_)
 ·obtain ⟨xi,e1,_,l1⟩:=bu (xs:=a) (i:=0+i) (by omega)
  obtain ⟨xj,e2,_,l2⟩:=bu (xs:=a) (i:=0+j) (by omega)
  unfold cW at h ⊢;rw [if_neg (by decide)] at h ⊢
  rw [e2] at h;rw [e1];have h':O.kle (key xj) (key y):=by unfold KeyOrd.kle;simpa using h
  have:=KeyOrd.kle_trans (eX T.sa (by omega) l1 l2) h'
  unfold KeyOrd.kle at this;simpa using this
 ·have hi:∀x∈(a.toList.drop p).take (na-p),∀y∈b.toList.take nb,LE O key y x:=λz hz u hu=>by
   obtain ⟨j,hj,hl,ej⟩:=dq hz
   have:=pf (p+j) (by omega) (by omega)
   unfold cW at this;rw [if_neg (by decide),nN (p+j) z ej] at this
   exact KeyOrd.kle_trans (yge u hu) (KeyOrd.kle_of_klt (show O.blt _ _=true by simpa using this))
  have lo:∀y',b[nb-1]? =some y'→∀x∈a.toList.take p,LE O key x y':=λy' lO z hz=>by
   rw [ey] at lO;cases lO;obtain ⟨j,hj,_,ej⟩:=fB hz
   have:=pt j hj
   unfold cW at this;rw [if_neg (by decide),nN j z ej] at this
   show O.blt _ _=false;simpa using this
  dsimp only
  by_cases ui:na-p>0
  ·rw [if_pos ui]
   have v2:=MJ.kg v hp hi
   by_cases e1:p=0
   ·rw [if_pos (by simpa using e1)]
    subst e1;exact wpS_pure ⟨g', .inl ⟨_,rfl,v2.qH⟩⟩
   ·rw [if_neg (by simpa using e1)]
    exact vg C Bl T g' v2 (by omega) (by omega) h3 h4 (by omega) lo
  ·rw [if_neg ui]
   have:p=na:=by omega
   subst this;exact vg C Bl T g' v h1 h2 h3 h4 hn lo
theorem Em(C:fM O key S k0 M A E s)(hk:kindOf st=k0){n:Nat}(T:kY O key S a b)(g:GS bB st)(c:S7)(iv:nv O key a b n c.2.1 c.2.2.1 c.2.2.2.1):
  wpS M A E s (zb a b c) (λr ai=>GS bB ai∧GR O key a b n r) st:=by
 unfold zb
 by_cases h:c.2.2.2.2.1>1
 ·rw [if_pos h];exact vf C hk T g iv
 ·rw [if_neg h];exact vf C hk T g iv
theorem El(C:fM O key S k0 M A E s)(hk:kindOf st=k0){n mg:Nat}(T:kY O key S a b)(g:GS bB st)(c:S6)(iv:nv O key a b n c.2.1 c.2.2.1 c.2.2.2.1):
  wpS M A E s (za a b mg c) (λr ai=>GS bB ai∧GR O key a b (n+1) r) st:=by
 obtain ⟨c1,na,nb,out,ac,bc⟩:=c;obtain ⟨v,h1,h2,h3,h4,hn⟩:=iv;dsimp only at v h1 h2 h3 h4 hn;unfold za;dsimp only;obtain ⟨y,ey,my,ly⟩:=bu (xs:=b) (i:=nb-1) (by omega)
 obtain ⟨x,ex,mx,lx⟩:=bu (xs:=a) (i:=na-1) (by omega)
 refine wpS_bind (bh ey (wpS_bind (bh ex (wpS_bind (C _ _ _ _ (T.mb y my) (T.ma x mx) hk ?_)))));cases e:O.blt (key y) (key x) with
 |true=>
  dsimp only;rw [if_pos rfl];refine wpS_bind (bh ex ?_)
  have v':=MJ.rf v h1 ex λz hz=>by
   obtain ⟨j,hj,_,ej⟩:=fB hz;exact KeyOrd.kle_trans (eX T.sb (by omega) ej ly) (KeyOrd.kle_of_klt e)
  by_cases e1:na-1=0
  ·rw [if_pos (by simpa using e1)]
   rw [e1] at v' ⊢;exact wpS_pure ⟨g, .inl ⟨_,rfl,v'.qH⟩⟩
  ·rw [if_neg (by simpa using e1)]
   have iv:nv O key a b (n+1) (na-1) nb (out.push x):=⟨v',by omega,by omega,h3,h4,by omega⟩
   by_cases h2:ac+1≥mg
   ·rw [if_pos h2];exact wpS_pure ⟨g, .inr ⟨rfl,iv⟩⟩
   ·rw [if_neg h2];exact wpS_pure ⟨g,rfl,iv⟩
 |false=>
  dsimp only;rw [if_neg (by decide)]
  refine wpS_bind (bh ey ?_)
  have v':=MJ.rg v (by omega) ey λz hz=>by
   obtain ⟨j,hj,_,ej⟩:=fB hz;exact KeyOrd.kle_trans (eX T.sa (by omega) ej lx) e
  by_cases e1:nb-1=1
  ·rw [if_pos (by simpa using e1)]
   rw [e1] at v' ⊢;exact wpS_pure ⟨g, .inl ⟨_,rfl,MJ.first T v'⟩⟩
  ·rw [if_neg (by simpa using e1)]
   have iv:nv O key a b (n+1) na (nb-1) (out.push y):=⟨v',by omega,by omega,by omega,by omega,by omega⟩
   by_cases h2:bc+1≥mg
   ·rw [if_pos h2];exact wpS_pure ⟨g, .inr ⟨rfl,iv⟩⟩
   ·rw [if_neg h2];exact wpS_pure ⟨g,rfl,iv⟩
theorem nv.le{n m:Nat}{out:Array Keyed}{na nb:Nat}(h:nv O key a b n na nb out)(hm:m≤n):nv O key a b m na nb out:=⟨h.1,h.2.1,h.2.2.1,h.2.2.2.1,h.2.2.2.2.1,by have:=h.2.2.2.2.2;omega⟩
theorem Ap(C:fM O key S k0 M A E s){n:Nat}(T:kY O key S a b)(g:GS bB st)(zc:kindOf bB=k0)(c:S5)(iv:nv O key a b n c.2.1 c.2.2.1 c.2.2.2.1):
  wpS M A E s (pJ a b c) (λr ai=>GS bB ai∧PX O key a b (n+1) r) st:=by
 have Sj:0<a.size+b.size:=by have:=T.na;omega
 unfold pJ;refine wpS_bind (wpS_mono (wpS_forRange (I:=λ(x:Nat)(c':S6)(ai:SortSt)=>GS bB ai∧c'.1=none∧nv O key a b (n+min x 1) c'.2.1 c'.2.2.1 c'.2.2.2.1) (Q:=λc' ai=>GS bB ai∧M6 O key a b (n+1) c') ?step ?fin ⟨g,rfl,iv.le (by omega)⟩) ?post)
 case fin=>
  rintro c' ai ⟨g',h1,h2⟩;exact ⟨g', .inr ⟨h1,h2.le (by omega)⟩⟩
 case step=>
  rintro x c' ai _ _ ⟨g',h1,h2⟩;refine wpS_mono (El C (g'.kind.trans zc) T g' c' h2) λr cu ⟨lQ,o⟩=>?_;cases r with
  |done d=>
   refine ⟨lQ,?_⟩
   rcases o with o| ⟨o1,o2⟩
   ·exact .inl o
   ·exact .inr ⟨o1,o2.le (by omega)⟩
  |yield d=>exact ⟨lQ,o.1,o.2.le (by omega)⟩
 case post=>
  rintro ⟨t1,t2⟩ ai ⟨g',o⟩
  rcases o with ⟨r,e,res⟩ | ⟨e,OP⟩
  ·dsimp only at e
   subst e;exact wpS_pure ⟨g',r,rfl,res⟩
  ·dsimp only at e
   subst e;dsimp only;refine wpS_bind (wpS_lift (wpAny_rule ⟨rfl,?_⟩));refine wpS_bind (wpS_mono (wpS_forRange (I:=λ(x:Nat)(c':S7)(ai:SortSt)=>GS bB ai∧c'.1=none∧nv O key a b (n+1) c'.2.1 c'.2.2.1 c'.2.2.2.1) (Q:=λc' ai=>GS bB ai∧M6 O key a b (n+1) c') ?step2 ?fin2 ⟨g',rfl,OP⟩) ?post2)
   case fin2=>
    rintro c' ai ⟨g',h1,h2⟩;exact ⟨g', .inr ⟨h1,h2⟩⟩
   case step2=>
    rintro x c' ai _ _ ⟨g',h1,h2⟩;refine wpS_mono (Em C (g'.kind.trans zc) T g' c' h2) λr cu ⟨lQ,o⟩=>?_;cases r with
    |done d=>exact ⟨lQ,o⟩
    |yield d=>exact ⟨lQ,o⟩
   case post2=>
    rintro ⟨u1,u2⟩ ai ⟨g',o⟩
    rcases o with ⟨r,e,res⟩ | ⟨e,Io⟩
    ·dsimp only at e
     subst e;exact wpS_pure ⟨g',r,rfl,res⟩
    ·dsimp only at e
     subst e;refine wpS_bind (nu λzT g1=>wpS_pure ⟨g'.trans g1,rfl,Io⟩)
theorem As(C:fM O key S k0 M A E s)(hk:kindOf st=k0)(T:kY O key S a b){Q:Array Keyed→SortSt→Prop}(q:∀r ai,GS st ai→Res O key (a.toList++b.toList) r.toList→Q r ai):wpS M A E s (m6 a b) Q st:=by
 rw [zx];refine wpS_bind (wpS_lift (wpAny_rule ⟨rfl,?_⟩));have na:=T.na;have nb:=T.nb;obtain ⟨x,ex,mx,lx⟩:=bu (xs:=a) (i:=a.size-1) (by omega)
 refine wpS_bind (bh ex ?_)
 have v0:MJ O key a b #[] a.size b.size:=by
  refine ⟨?_,by simp,?_,?_,by simp⟩
  ·rw [vA (by simp),vA (by simp)]
   simpa using (List.reverse_perm a.toList).append (List.reverse_perm b.toList)
  ·rw [vA (by simp)]
   exact List.pairwise_reverse.mpr (T.sa.imp λh=>h)
  ·rw [vA (by simp)]
   exact List.pairwise_reverse.mpr (T.sb.imp λh=>h)
 have v1:=MJ.rf v0 na ex λy hy=>T.last x ex y (vv hy);have e1:(#[]:Array Keyed).push x= #[x]:=rfl;rw [e1] at v1
 by_cases h1:a.size-1=0
 ·rw [if_pos (by simpa using h1)]
  rw [h1] at v1 ⊢;exact wpS_pure (q _ _ (GS.refl _) v1.qH)
 ·rw [if_neg (by simpa using h1)]
  by_cases h2:b.size=1
  ·rw [if_pos (by simpa using h2)]
   rw [h2] at v1 ⊢;exact wpS_pure (q _ _ (GS.refl _) (MJ.first T v1))
  ·rw [if_neg (by simpa using h2)]
   refine wpS_bind (wpS_get ?_);refine wpS_bind (wpS_mono (wpS_forRange (I:=λ(x:Nat)(c':S5)(ai:SortSt)=>GS st ai∧c'.1=none∧nv O key a b (x+1) c'.2.1 c'.2.2.1 c'.2.2.2.1) (Q:=λc' ai=>GS st ai∧∃r,c'.1=some r∧Res O key (a.toList++b.toList) r.toList) ?step ?fin ⟨GS.refl _,rfl,v1,by show 1≤a.size-1;omega,by show a.size-1≤a.size;omega,by show 2≤b.size;omega,bx _,by show 0+1+(a.size-1)+b.size≤a.size+b.size;omega⟩) ?post)
   case fin=>
    rintro c' ai ⟨g',h1,h2⟩
    have:=h2.2.2.2.2.2
    have:=h2.2.1
    omega
   case step=>
    rintro x c' ai _ _ ⟨g',h1,h2⟩;refine wpS_mono (Ap C T g' hk c' h2) λr cu ⟨lQ,o⟩=>?_;cases r with
    |done d=>exact ⟨lQ,o⟩
    |yield d=>exact ⟨lQ,o⟩
   case post=>
    rintro ⟨c1,c2⟩ ai ⟨g',r,e,res⟩;dsimp only at e;subst e;exact wpS_pure (q r ai g' res)
end
theorem zw(i:Nat):mergeAt' i=(do
 let s ←get
 let (some (sa,na,power),some (sb,nb,_)):=((pendingOf s)[i]?,(pendingOf s)[i+1]?) |unsupported "internal:list.sort.pending"
 set (setPending s (((pendingOf s).setIfInBounds i (sa,na+nb,power)).eraseIdxIfInBounds (i+1)))
 let some k ←dM false (←elem' (arrOf s) sb) (arrOf s) sa na 0|return false
 let (sa,na):=(sa+k,na-k)
 if na==0 then return true
 let some nb ←dM true (←elem' (arrOf s) (sa+na-1)) (arrOf s) sb nb (nb-1) |return false
 if nb==0 then return true
 let x:=(arrOf s).extract sa sb
 let y:=(arrOf s).extract sb (sb+nb)
 let merged ←if na≤nb then m7 x y else m6 x y
 modify λs=>setArr s (merged.toList.zipIdx.foldl (λa (p,j)=>a.setIfInBounds (sa+j) p) (arrOf s))
 return (failedOf (←get)).isNone):=rfl
theorem ou:∀(m:List Keyed)(off b:Nat)(xs:Array Keyed),b+off+m.length≤xs.size→
  ((m.zipIdx off).foldl (λa (p:Keyed×Nat)=>a.setIfInBounds (b+p.2) p.1) xs).size=xs.size∧∀i,((m.zipIdx off).foldl (λa (p:Keyed×Nat)=>a.setIfInBounds (b+p.2) p.1) xs)[i]? =if b+off≤i∧i<b+off+m.length then m[i-(b+off)]? else xs[i]?
 | [],off,b,xs,_=>⟨rfl,λi=>by rw [if_neg (by simp)];rfl⟩
 |x::m,off,b,xs,h=>by
  rw [dh] at h;have ih:=ou m (off+1) b (xs.setIfInBounds (b+off) x) (by rw [Array.size_setIfInBounds];omega)
  rw [List.zipIdx_cons,List.foldl_cons];refine ⟨by rw [ih.1,Array.size_setIfInBounds],λi=>?_⟩
  rw [ih.2 i]
  by_cases h1:b+(off+1)≤i∧i<b+(off+1)+m.length
  ·rw [if_pos h1,if_pos (by rw [dh];omega),show i-(b+off)=(i-(b+(off+1)))+1 by omega,sC]
  ·rw [if_neg h1,Array.getElem?_setIfInBounds]
   by_cases h2:b+off=i
   ·rw [if_pos h2,if_pos (by omega),if_pos (by rw [dh];omega),←h2,jj];rfl
   ·rw [if_neg h2,if_neg (by rw [dh];omega)]
def putAt(xs m:Array Keyed)(b:Nat):Array Keyed:=m.toList.zipIdx.foldl (λa (p:Keyed×Nat)=>a.setIfInBounds (b+p.2) p.1) xs
theorem uQ{xs m:Array Keyed}{b:Nat}(h:b+m.size≤xs.size)(i:Nat):(putAt xs m b)[i]? =if b≤i∧i<b+m.size then m[i-b]? else xs[i]? :=by
 have:=(ou m.toList 0 b xs (by simpa using h)).2 i
 unfold putAt;rw [this];simp
theorem BR{xs m:Array Keyed}{b:Nat}(h:b+m.size≤xs.size):(putAt xs m b).size=xs.size:=(ou m.toList 0 b xs (by simpa using h)).1
theorem BQ{xs m:Array Keyed}{b:Nat}(h:b+m.size≤xs.size)(p:m.toList.Perm ((xs.toList.drop b).take m.size)):(putAt xs m b).Perm xs:=by
 rw [Ft]
 have e:(putAt xs m b).toList=xs.toList.take b++(m.toList++xs.toList.drop (b+m.size)):=by
  apply List.ext_getElem?;intro i;rw [f6,uQ h,List.getElem?_append,List.getElem?_append,cm,dA,dA,List.getElem?_take,qy,f6,f6,f6]
  repeat' split
  all_goals first|rfl| (exfalso;omega) | (congr 1;omega)
 have e2:xs.toList=xs.toList.take b++((xs.toList.drop b).take m.size++xs.toList.drop (b+m.size)):=by
  conv=>lhs;rw [←gO b xs.toList,lM xs.toList b m.size]
 rw [e]
 conv=>rhs;rw [e2]
 exact List.Perm.append_left _ (p.append_right _)
section
variable {O:KeyOrd} {key:Keyed→O.α} {S:Keyed→Prop} {k0:SortKind} {prog:Program} {w:World} {A:Around} {E:Value→Shared→Prop} {s:Shared} {st bB:SortSt}
theorem JW{M:Model}{ai:SortSt}{Q:PUnit→SortSt→Prop}(h:Q ⟨⟩ ai):wpS M A E s (set ai:StateT SortSt Sem PUnit) Q st:=by
 unfold wpS;rw [StateT.run_set];exact wpAny_pure ⟨rfl,h⟩
theorem eu{xs:Array Keyed}{a b:Nat}(h:hZ O key xs a b){i j:Nat}{x y:Keyed}(ha:a≤i)(cy:i≤j)(hj:j<b)(hx:xs[i]? =some x)(hy:xs[j]? =some y):LE O key x y:=by
 have:=h i j ha cy hj
 unfold ky at this;rw [hx,hy] at this;exact this
theorem zS{xs:Array Keyed}{a b:Nat}(hb:b≤xs.size)(h:∀i j x y,a≤i→i≤j→j<b→xs[i]? =some x→xs[j]? =some y→LE O key x y):hZ O key xs a b:=λi j ha cy hj=>by
 obtain ⟨x,ex,_,_⟩:=bu (xs:=xs) (i:=i) (by omega)
 obtain ⟨y,ey,_,_⟩:=bu (xs:=xs) (i:=j) (by omega)
 unfold ky;rw [ex,ey];exact h i j x y ha cy hj ex ey
theorem ext_get{xs:Array Keyed}{a b i:Nat}(hb:b≤xs.size)(hi:i<b-a):(xs.extract a b)[i]? =xs[a+i]? :=by
 rw [Array.getElem?_extract,if_pos (by omega)]
theorem ext_mem{xs:Array Keyed}{a b:Nat}{x:Keyed}(h:x∈(xs.extract a b).toList):∃i,a≤i∧i<b∧i<xs.size∧xs[i]? =some x:=by
 rw [ext_toList] at h;obtain ⟨j,h1,h2,h3⟩:=dq h;rw [dA] at h2;exact ⟨a+j,by omega,by omega,h2,i7 h3⟩
theorem EH{xs:Array Keyed}{a b:Nat}(h:hZ O key xs a b)(hb:b≤xs.size):(xs.extract a b).toList.Pairwise (LE O key):=by
 rw [Ax];intro i j hi hj cy;have hs:(xs.extract a b).toList.length=b-a:=by rw [dA,yB];omega
 rw [hs] at hi hj;have gi:=ext_get (xs:=xs) (a:=a) hb hi;have gj:=ext_get (xs:=xs) (a:=a) hb hj;refine eu h (i:=a+i) (j:=a+j) (by omega) (by omega) (by omega) ?_ ?_
 ·rw [←gi,←f6];exact bA _
 ·rw [←gj,←f6];exact bA _
theorem Ar(C:fM O key S k0 (model prog w) A E s){i sa na nb pw UC:Nat}{Q:Bool→SortSt→Prop}(o:Ok S k0 st)(hf:failedOf st=none)(p1:(pendingOf st)[i]? =some (sa,na,pw))(p2:(pendingOf st)[i+1]? =some (sa+na,nb,UC))(hna:1≤na)(Kx:1≤nb)(eD:sa+na+nb≤(arrOf st).size)
  (s1:hZ O key (arrOf st) sa (sa+na)) (s2:hZ O key (arrOf st) (sa+na) (sa+na+nb))
  (q:∀ai,(arrOf ai).Perm (arrOf st)→kindOf ai=kindOf st→failedOf ai=none→pendingOf ai=((pendingOf st).setIfInBounds i (sa,na+nb,pw)).eraseIdxIfInBounds (i+1)→(∀j,j<sa∨sa+na+nb≤j→(arrOf ai)[j]? =(arrOf st)[j]?)→hZ O key (arrOf ai) sa (sa+(na+nb))→Q true ai):
  wpS (model prog w) A E s (mergeAt' i) Q st:=by
 rw [zw];refine wpS_bind (wpS_get ?_);rw [p1,p2];dsimp only;refine wpS_bind (JW ?_);generalize ((pendingOf st).setIfInBounds i (sa,na+nb,pw)).eraseIdxIfInBounds (i+1)=pn at q;have o':Ok S k0 (setPending st pn):=⟨o.mem,o.kind⟩;have mem:∀x∈(arrOf st).toList,S x:=o.mem;obtain ⟨b0,NQ,ZL,lb0⟩:=bu (xs:=arrOf st) (i:=sa+na) (by omega)
 refine wpS_bind (bh NQ ?_);have nN:∀(j:Nat)(z:Keyed),(arrOf st)[j]? =some z→(arrOf st)[j]?.getD (Value.none,Value.none)=z:=λj z e=>by rw [e];rfl
 refine wpS_bind (fJ C (m9 mem (i:=sa) (n:=na) (by omega)) (mem b0 ZL) o'.kind (by omega) (λi j cy hj h=>?_) λk hk kt kf=>?_)
 ·obtain ⟨xi,e1,_,_⟩:=bu (xs:=arrOf st) (i:=sa+i) (by omega)
  obtain ⟨xj,e2,_,_⟩:=bu (xs:=arrOf st) (i:=sa+j) (by omega)
  unfold cW at h ⊢;rw [if_neg (by decide)] at h ⊢
  rw [e2] at h;rw [e1];have h':O.kle (key xj) (key b0):=by unfold KeyOrd.kle;simpa using h
  have:=KeyOrd.kle_trans (eu s1 (by omega) (by omega) (by omega) e1 e2) h'
  unfold KeyOrd.kle at this;simpa using this
 have Ta:∀j x,sa≤j→j<sa+k→(arrOf st)[j]? =some x→LE O key x b0:=λj x h1 h2 e=>by
  have:=kt (j-sa) (by omega)
  unfold cW at this;rw [if_neg (by decide),show sa+(j-sa)=j by omega,nN j x e] at this
  show O.blt _ _=false;simpa using this
 have Zq:∀j x,sa+k≤j→j<sa+na→(arrOf st)[j]? =some x→LE O key b0 x:=λj x h1 h2 e=>by
  have:=kf (j-sa) (by omega) (by omega)
  unfold cW at this;rw [if_neg (by decide),show sa+(j-sa)=j by omega,nN j x e] at this
  exact KeyOrd.kle_of_klt (show O.blt _ _=true by simpa using this)
 dsimp only;have L0:∀j y,sa+na≤j→j<sa+na+nb→(arrOf st)[j]? =some y→LE O key b0 y:=λj y h1 h2 e=>eu s2 (by omega) h1 h2 NQ e
 by_cases e0:na-k=0
 ·rw [if_pos (by simpa using e0)]
  refine wpS_pure (q _ (.refl _) rfl hf rfl (λ_ _=>rfl) ?_);refine zS (by show sa+(na+nb)≤(arrOf st).size;omega) λi j x y h1 cy hj ex ey=>?_
  by_cases c1:j<sa+na
  ·exact eu s1 h1 cy c1 ex ey
  ·by_cases c2:i<sa+na
   ·exact KeyOrd.kle_trans (Ta i x h1 (by omega) ex) (L0 j y (by omega) (by omega) ey)
   ·exact eu s2 (by omega) cy (by omega) ex ey
 rw [if_neg (by simpa using e0)]
 have RB:sa+k+(na-k)-1=sa+na-1:=by omega
 obtain ⟨al,Kl,ZK,lal⟩:=bu (xs:=arrOf st) (i:=sa+k+(na-k)-1) (by omega)
 refine wpS_bind (bh Kl ?_);rw [RB] at Kl;refine wpS_bind (fJ C (m9 mem (i:=sa+na) (n:=nb) (by omega)) (mem al ZK) o'.kind (by omega) (λi j cy hj h=>?_) λm hm mt mf=>?_)
 ·obtain ⟨yi,e1,_,_⟩:=bu (xs:=arrOf st) (i:=sa+na+i) (by omega)
  obtain ⟨yj,e2,_,_⟩:=bu (xs:=arrOf st) (i:=sa+na+j) (by omega)
  unfold cW at h ⊢;rw [if_pos rfl] at h ⊢;rw [e2] at h;rw [e1];exact KeyOrd.klt_of_kle_of_klt (eu s2 (by omega) (by omega) (by omega) e1 e2) h
 have Z5:∀j y,sa+na≤j→j<sa+na+m→(arrOf st)[j]? =some y→LE O key y al:=λj y h1 h2 e=>by
  have:=mt (j-(sa+na)) (by omega)
  unfold cW at this;rw [if_pos rfl,show sa+na+(j-(sa+na))=j by omega,nN j y e] at this
  exact KeyOrd.kle_of_klt this
 have Tf:∀j y,sa+na+m≤j→j<sa+na+nb→(arrOf st)[j]? =some y→LE O key al y:=λj y h1 h2 e=>by
  have:=mf (j-(sa+na)) (by omega) (by omega)
  unfold cW at this;rw [if_pos rfl,show sa+na+(j-(sa+na))=j by omega,nN j y e] at this
  exact this
 have Vz:∀j x,sa≤j→j<sa+na→(arrOf st)[j]? =some x→LE O key x al:=λj x h1 h2 e=>eu s1 h1 (by omega) (by omega) e Kl
 dsimp only
 by_cases e1:m=0
 ·rw [if_pos (by simpa using e1)]
  refine wpS_pure (q _ (.refl _) rfl hf rfl (λ_ _=>rfl) ?_);refine zS (by show sa+(na+nb)≤(arrOf st).size;omega) λi j x y h1 cy hj ex ey=>?_
  by_cases c1:j<sa+na
  ·exact eu s1 h1 cy c1 ex ey
  ·by_cases c2:i<sa+na
   ·exact KeyOrd.kle_trans (Vz i x h1 c2 ex) (Tf j y (by omega) (by omega) ey)
   ·exact eu s2 (by omega) cy (by omega) ex ey
 rw [if_neg (by simpa using e1)]
 have T:kY O key S ((arrOf st).extract (sa+k) (sa+na)) ((arrOf st).extract (sa+na) (sa+na+m)):=by
  refine ⟨λx hx=>?_,λx hx=>?_,EH (λi j h1 h2 h3=>s1 i j (by omega) h2 h3) (by omega),EH (λi j h1 h2 h3=>s2 i j h1 h2 (by omega)) (by omega),by rw [yB];omega,by rw [yB];omega,λy hy x hx=>?_,λx hx y hy=>?_⟩
  ·obtain ⟨i,_,_,_,e⟩:=ext_mem hx
   exact mem x (gd (jK e))
  ·obtain ⟨i,_,_,_,e⟩:=ext_mem hx
   exact mem x (gd (jK e))
  ·rw [ext_get (by omega) (by omega)] at hy
   have KC:(arrOf st)[sa+na]? =some y:=hy;rw [NQ] at KC;cases KC;obtain ⟨i,h1,h2,_,e⟩:=ext_mem hx;exact Zq i x h1 h2 e
  ·have hsz2:((arrOf st).extract (sa+k) (sa+na)).size=na-k:=by rw [yB];omega
   rw [hsz2,ext_get (by omega) (by omega)] at hx
   rw [show sa+k+(na-k-1)=sa+na-1 by omega,Kl] at hx;cases hx
   obtain ⟨i,h1,h2,_,e⟩:=ext_mem hy;exact Z5 i y h1 h2 e
 have szx:((arrOf st).extract (sa+k) (sa+na)).size=na-k:=by rw [yB];omega
 have szy:((arrOf st).extract (sa+na) (sa+na+m)).size=m:=by rw [yB];omega
 have fin:∀(r:Array Keyed)(ai:SortSt),GS (setPending st pn) ai→Res O key (((arrOf st).extract (sa+k) (sa+na)).toList++((arrOf st).extract (sa+na) (sa+na+m)).toList) r.toList→
   wpS (model prog w) A E s (do
    modify λs=>setArr s (r.toList.zipIdx.foldl (λa (p,j)=>a.setIfInBounds (sa+k+j) p) (arrOf s))
    return (failedOf (←get)).isNone) Q ai:=by
  intro r ai g res;refine wpS_bind (wpS_modify (wpS_bind (wpS_get ?_)));have Kt:failedOf ai=none:=g.failed.trans hf
  have hr:r.size=na-k+m:=by
   have:=res.1.length_eq
   rw [b9,dA,dA,dA,szx,szy] at this;exact this
  have hb:sa+k+r.size≤(arrOf ai).size:=by rw [g.arr];show _≤(arrOf st).size;omega
  have aad:(r.toList.zipIdx.foldl (λa (x:Keyed×Nat)=>match x with| (p,j)=>a.setIfInBounds (sa+k+j) p) (arrOf ai))=putAt (arrOf ai) r (sa+k):=rfl
  show wpS _ _ _ _ (pure (failedOf ai).isNone) Q (setArr ai (putAt (arrOf ai) r (sa+k)));rw [Kt];have ga:arrOf ai=arrOf st:=g.arr;rw [ga] at hb ⊢;have EL:=λi=>uQ hb i;rw [hr] at EL
  have MH:∀j x,sa+k≤j→j<sa+na+m→(putAt (arrOf st) r (sa+k))[j]? =some x→∃i,sa+k≤i∧i<sa+na+m∧(arrOf st)[i]? =some x:=λj x h1 h2 e=>by
   rw [EL,if_pos (by omega)] at e
   have hm:=res.1.mem_iff.mp (gd (jK e))
   rcases cv.mp hm with z|z
   ·obtain ⟨i,a1,a2,_,a4⟩:=ext_mem z
    exact ⟨i,a1,by omega,a4⟩
   ·obtain ⟨i,a1,a2,_,a4⟩:=ext_mem z
    exact ⟨i,by omega,a2,a4⟩
  have outs:∀j,j<sa+k∨sa+na+m≤j→(putAt (arrOf st) r (sa+k))[j]? =(arrOf st)[j]? :=λj h=>by rw [EL,if_neg (by omega)]
  have IA:∀i x j y,sa≤i→i<sa+k→(arrOf st)[i]? =some x→sa+k≤j→j<sa+na+nb→(arrOf st)[j]? =some y→LE O key x y:=λi x j y a1 a2 a3 a4 a5 a6=>by
   by_cases c:j<sa+na
   ·exact eu s1 a1 (by omega) c a3 a6
   ·exact KeyOrd.kle_trans (Ta i x a1 a2 a3) (L0 j y (by omega) a5 a6)
  have Kv:∀i x j y,sa≤i→i<sa+na+m→(arrOf st)[i]? =some x→sa+na+m≤j→j<sa+na+nb→(arrOf st)[j]? =some y→LE O key x y:=λi x j y a1 a2 a3 a4 a5 a6=>by
   by_cases c:i<sa+na
   ·exact KeyOrd.kle_trans (Vz i x a1 c a3) (Tf j y a4 a5 a6)
   ·exact eu s2 (by omega) (by omega) a5 a3 a6
  refine wpS_pure (q _ ?_ g.kind Kt g.pend (λj hj=>outs j (by omega)) ?_)
  ·refine BQ hb ?_
   rw [hr];refine res.1.trans ?_;rw [ext_toList,ext_toList,show sa+na-(sa+k)=na-k by omega,show sa+na+m-(sa+na)=m by omega]
   have:((arrOf st).toList.drop (sa+k)).take (na-k+m)=((arrOf st).toList.drop (sa+k)).take (na-k)++((arrOf st).toList.drop (sa+na)).take m:=by
    rw [mG _ (show na-k≤na-k+m by omega),List.drop_drop,show sa+k+(na-k)=sa+na by omega,show na-k+m-(na-k)=m by omega]
   rw [this]
  ·refine zS (by show sa+(na+nb)≤(putAt (arrOf st) r (sa+k)).size;rw [BR hb];omega) λi j x y h1 cy hj ex ey=>?_
   have nB:(putAt (arrOf st) r (sa+k))[i]? =some x:=ex;have lO:(putAt (arrOf st) r (sa+k))[j]? =some y:=ey
   by_cases ci:i<sa+k
   ·rw [outs i (.inl ci)] at nB
    by_cases cj:j<sa+k
    ·rw [outs j (.inl cj)] at lO
     exact eu s1 h1 cy (by omega) nB lO
    ·by_cases Qz:j<sa+na+m
     ·obtain ⟨j',b1,b2,b3⟩:=MH j y (by omega) Qz lO
      exact IA i x j' y h1 ci nB b1 (by omega) b3
     ·rw [outs j (.inr (by omega))] at lO
      exact IA i x j y h1 ci nB (by omega) (by omega) lO
   ·by_cases Ww:i<sa+na+m
    ·by_cases Qz:j<sa+na+m
     ·rw [EL,if_pos (by omega)] at nB lO
      exact eX res.2 (by omega) (jK nB) (jK lO)
     ·obtain ⟨i',b1,b2,b3⟩:=MH i x (by omega) Ww nB
      rw [outs j (.inr (by omega))] at lO
      exact Kv i' x j y (by omega) b2 b3 (by omega) (by omega) lO
    ·rw [outs i (.inr (by omega))] at nB
     rw [outs j (.inr (by omega))] at lO
     exact eu s2 (by omega) cy (by omega) nB lO
 by_cases c:na-k≤m
 ·rw [if_pos c]
  exact wpS_bind (Au C o'.kind T λr ai g res=>fin r ai g res)
 ·rw [if_neg c]
  exact wpS_bind (As C o'.kind T λr ai g res=>fin r ai g res)
end
abbrev U1:=Option Unit×Unit
def Fo(pw:Nat):StateT SortSt Sem (ForInStep U1):=do
 let st ←get
 match (if (pendingOf st).size>1 then (pendingOf st)[(pendingOf st).size-2]? else none) with
 |some (_,_,O0)=>
  if O0≤pw then pure (ForInStep.done (none,()))
  else do
   let ok ←mergeAt' ((pendingOf st).size-2)
   if (!ok)=true then pure (ForInStep.done (some (),())) else pure (ForInStep.yield (none,()))
 |_=>pure (ForInStep.done (none,()))
def kC(size lo n:Nat):StateT SortSt Sem (ForInStep (Option Unit×Nat)):=do
 let st ←get
 match (pendingOf st).back? with
 |some (s1,n1,_)=>do
  let t ←forIn [0:size] ((none,()):U1) λ_ _=>Fo (power' size (2*s1+n1) (2*s1+n1+n1+n) size)
  match t.1 with
  |some r=>pure (ForInStep.done (some r,lo))
  |none=>do
   modify λs=>setPending s ((pendingOf s).modify ((pendingOf s).size-1) λx=>(x.1,x.2.1,power' size (2*s1+n1) (2*s1+n1+n1+n) size))
   modify λs=>setPending s ((pendingOf s).push (lo,n,0))
   pure (ForInStep.yield (none,lo+n))
 |_=>do
  modify λs=>setPending s ((pendingOf s).push (lo,n,0))
  pure (ForInStep.yield (none,lo+n))
def zQ(size lo:Nat):StateT SortSt Sem (ForInStep (Option Unit×Nat)):=
 if lo≥size then pure (ForInStep.done (none,lo))
 else do
  let x ←countRun' lo (size-lo)
  match x with
  |some found=>
   if found<minRun' size size 0 then do
    liftM (rule "list.sort.binary-insertion")
    let ok ←binarySort' lo (min (size-lo) (minRun' size size 0)) found
    if (!ok)=true then pure (ForInStep.done (some (),lo)) else kC size lo (min (size-lo) (minRun' size size 0))
   else kC size lo found
  |_=>pure (ForInStep.done (some (),lo))
def Ed:StateT SortSt Sem (ForInStep U1):=do
 let st ←get
 if (pendingOf st).size≤1 then pure (ForInStep.done (none,()))
 else do
  let ok ←mergeAt' (if (if (pendingOf st).size-2>0 then (pendingOf st)[(pendingOf st).size-2-1]?.map (·.2.1) else none).any (·<((pendingOf st)[(pendingOf st).size-2+1]?.elim 0 (·.2.1))) then (pendingOf st).size-2-1 else (pendingOf st).size-2)
  if (!ok)=true then pure (ForInStep.done (some (),())) else pure (ForInStep.yield (none,()))
theorem u0:sortRuns'=(do
 let st ←get
 let c ←forIn [0:(arrOf st).size] ((none,0):Option Unit×Nat) λ_ c=>zQ (arrOf st).size c.2
 match c.1 with
 |some r=>pure r
 |none=>do
  let t ←forIn [0:(arrOf st).size] ((none,()):U1) λ_ _=>Ed
  match t.1 with
  |some r=>pure r
  |none=>pure ()):=by
 rw [sortRuns'_eq];dsimp only;refine bnd rfl λst=>bnd (y3 λ_ c=>?_) λc=>?_
 ·unfold zQ
  refine ee (λ_=>rfl) (λ_=>bnd rfl λx=>?_);cases x with
  |none=>rfl
  |some f=>
   dsimp only;have jp:∀n:Nat,kC (arrOf st).size c.2 n=kC (arrOf st).size c.2 n:=λ_=>rfl;refine ee (λ_=>bnd rfl λ_=>bnd rfl λok=>ee (λ_=>rfl) (λ_=>?_)) (λ_=>?_)
   all_goals
    unfold kC;refine bnd rfl λjA=>?_;cases (pendingOf jA).back? with
    |none=>rfl
    |some e=>
     obtain ⟨s1,n1,p1⟩:=e;dsimp only;refine bnd (y3 λ_ c=>?_) λt=>?_
     ·unfold Fo
      refine bnd rfl λsU=>?_;cases (if (pendingOf sU).size>1 then (pendingOf sU)[(pendingOf sU).size-2]? else none) with
      |none=>rfl
      |some e=>rfl
     ·obtain ⟨t1,t2⟩:=t
      cases t1<;>rfl
 ·obtain ⟨c1,c2⟩:=c
  cases c1 with
  |some r=>rfl
  |none=>
   dsimp only;refine bnd (y3 λ_ c=>?_) λt=>?_
   ·rfl
   ·obtain ⟨t1,t2⟩:=t
    cases t1<;>rfl
section
variable {O:KeyOrd} {key:Keyed→O.α} {S:Keyed→Prop} {k0:SortKind} {prog:Program} {w:World} {A:Around} {E:Value→Shared→Prop} {s:Shared} {st bB:SortSt}
def iB(O:KeyOrd)(key:Keyed→O.α)(xs:Array Keyed):Nat→List (Nat×Nat)→Nat→Prop
 |a,[],b=>a=b
 |a,e::r,b=>e.1=a∧1≤e.2∧hZ O key xs a (a+e.2)∧iB O key xs (a+e.2) r b
theorem iB.app{xs:Array Keyed}:∀{l1 l2:List (Nat×Nat)}{a b:Nat},iB O key xs a (l1++l2) b↔∃c,iB O key xs a l1 c∧iB O key xs c l2 b
 | [],l2,a,b=>⟨λh=>⟨a,rfl,h⟩,λ⟨c,h1,h2⟩=>by cases h1;exact h2⟩
 |e::l1,l2,a,b=>by
  constructor
  ·rintro ⟨h1,h2,h3,h4⟩
   obtain ⟨c,c1,c2⟩:=iB.app.mp h4;exact ⟨c,⟨h1,h2,h3,c1⟩,c2⟩
  ·rintro ⟨c,⟨h1,h2,h3,c1⟩,c2⟩
   exact ⟨h1,h2,h3,iB.app.mpr ⟨c,c1,c2⟩⟩
theorem iB.le{xs:Array Keyed}:∀{l:List (Nat×Nat)}{a b:Nat},iB O key xs a l b→a+l.length≤b
 | [],a,b,h=>by cases h;simp
 |e::l,a,b,⟨_,h2,_,h4⟩=>by
  have:=iB.le h4
  rw [dh];omega
theorem u5{xs ys:Array Keyed}{a b:Nat}(h:∀i,a≤i→i<b→ys[i]? =xs[i]?)(hs:hZ O key xs a b):hZ O key ys a b:=λi j h1 h2 h3=>by
 rw [gu (h i h1 (by omega)),gu (h j (by omega) h3)];exact hs i j h1 h2 h3
theorem iB.congr{xs ys:Array Keyed}:∀{l:List (Nat×Nat)}{a b:Nat},(∀i,a≤i→i<b→ys[i]? =xs[i]?)→iB O key xs a l b→iB O key ys a l b
 | [],a,b,_,h=>h
 |e::l,a,b,hc,⟨h1,h2,h3,h4⟩=>by
  have:=iB.le h4
  exact ⟨h1,h2,u5 (λi a1 a2=>hc i a1 (by omega)) h3,iB.congr (λi a1 a2=>hc i (by omega) a2) h4⟩
def pl(st:SortSt):List (Nat×Nat):=(pendingOf st).toList.map λe=>(e.1,e.2.1)
structure SI (O:KeyOrd) (key:Keyed→O.α) (S:Keyed→Prop) (k0:SortKind) (a0:Array Keyed) (st:SortSt) (lo:Nat):Prop where
 ok:Ok S k0 st
 failed:failedOf st=none
 perm:(arrOf st).Perm a0
 cov:iB O key (arrOf st) 0 (pl st) lo
 le:lo≤a0.size
theorem SI.size{a0:Array Keyed}{lo:Nat}(h:SI O key S k0 a0 st lo):(arrOf st).size=a0.size:=h.perm.size_eq
theorem Cg(C:fM O key S k0 (model prog w) A E s){a0:Array Keyed}{lo i:Nat}{Q:Bool→SortSt→Prop}(h:SI O key S k0 a0 st lo)(hi:i+1<(pendingOf st).size)
  (q:∀ai,SI O key S k0 a0 ai lo→(pendingOf ai).size=(pendingOf st).size-1→(∀j,lo≤j→(arrOf ai)[j]? =(arrOf st)[j]?)→Q true ai):wpS (model prog w) A E s (mergeAt' i) Q st:=by
 have e1:(pendingOf st)[i]? =some (pendingOf st)[i]:=getElem?_pos _ i (by omega)
 have e2:(pendingOf st)[i+1]? =some (pendingOf st)[i+1]:=getElem?_pos _ (i+1) hi
 have hl:(pendingOf st).toList=(pendingOf st).toList.take i++((pendingOf st)[i]::(pendingOf st)[i+1]::(pendingOf st).toList.drop (i+2)):=by
  conv=>lhs;rw [←gO i (pendingOf st).toList]
  congr 1
  rw [qv (by rw [dA];omega),qv (by rw [dA];omega)]
  rfl
 generalize hx:(pendingOf st)[i]=x at*;generalize hy:(pendingOf st)[i+1]=y at*;obtain ⟨sa,na,pw⟩:=x;obtain ⟨sb,nb,UC⟩:=y;have hc:=h.cov;unfold pl at hc;rw [hl,dr,iV,iV] at hc;obtain ⟨c,c1,c2⟩:=iB.app.mp hc;obtain ⟨d1,d2,d3,d4,d5,d6,d7⟩:=c2;dsimp only at d1 d2 d3 d4 d5 d6 d7;subst d1;subst d4;have hle:=d7.le;have eD:=h.size;have Bm:=h.le;refine Ar C h.ok h.failed e1 e2 d2 d5 (by omega) d3 d6 λai b1 b2 b3 b4 b5 b6=>?_
 have eU:(pendingOf ai).toList=(pendingOf st).toList.take i++((sa,na+nb,pw)::(pendingOf st).toList.drop (i+2)):=by
  rw [b4,Array.toList_eraseIdxIfInBounds,Array.toList_setIfInBounds]
  conv=>lhs;rw [hl]
  have hlen:((pendingOf st).toList.take i).length=i:=by rw [cm,dA];omega
  rw [List.set_append_right _ _ (by omega),List.eraseIdx_append_of_length_le (by omega),hlen,jj,show i+1-i=1 by omega]
  rfl
 refine q ai ⟨⟨λp hp=>h.ok.mem p ((Ft.mp b1).mem_iff.mp hp),b2.trans h.ok.kind⟩,b3,b1.trans h.perm,?_,h.le⟩ ?_ λj hj=>b5 j (.inr (by omega))
 ·unfold pl
  rw [eU,dr,iV];refine iB.app.mpr ⟨sa,iB.congr (λj a1 a2=>b5 j (.inl a2)) c1,rfl,?_,b6,?_⟩
  ·show 1≤na+nb;omega
  ·show iB O key (arrOf ai) (sa+(na+nb)) _ lo
   rw [←Nat.add_assoc];exact iB.congr (λj a1 a2=>b5 j (.inr a1)) d7
 ·rw [←dA,eU,b9,dh,cm,fw,dA];omega
def Kp(bB st:SortSt)(lo:Nat):Prop:=∀j,lo≤j→(arrOf st)[j]? =(arrOf bB)[j]?
theorem GJ(C:fM O key S k0 (model prog w) A E s){a0:Array Keyed}{lo pw:Nat}(h:SI O key S k0 a0 st lo)(hk:Kp bB st lo):wpS (model prog w) A E s (Fo pw) (λr ai=>match r with| .done c=>c=(none,())∧SI O key S k0 a0 ai lo∧Kp bB ai lo| .yield c=>c=(none,())∧SI O key S k0 a0 ai lo∧Kp bB ai lo) st:=by
 unfold Fo;refine wpS_bind (wpS_get ?_)
 by_cases hp:(pendingOf st).size>1
 ·rw [if_pos hp]
  cases e:(pendingOf st)[(pendingOf st).size-2]? with
  |none=>exact wpS_pure ⟨rfl,h,hk⟩
  |some x=>
   obtain ⟨x1,x2,x3⟩:=x;dsimp only
   by_cases hle:x3≤pw
   ·rw [if_pos hle];exact wpS_pure ⟨rfl,h,hk⟩
   ·rw [if_neg hle]
    refine wpS_bind (Cg C h (by omega) λai h' _ jF=>?_)
    exact wpS_pure ⟨rfl,h',λj hj=>(jF j hj).trans (hk j hj)⟩
 ·rw [if_neg hp]
  exact wpS_pure ⟨rfl,h,hk⟩
theorem Jh{lo n:Nat}:pl (setPending st ((pendingOf st).push (lo,n,0)))=pl st++ [(lo,n)]:=by
 unfold pl;show ((pendingOf st).push (lo,n,0)).toList.map _=_;rw [vI,dr];rfl
theorem DS{i pw:Nat}:pl (setPending st ((pendingOf st).modify i λx=>(x.1,x.2.1,pw)))=pl st:=by
 unfold pl;show ((pendingOf st).modify i λx=>(x.1,x.2.1,pw)).toList.map _=_;apply List.ext_getElem?;intro j;rw [fc,fc,f6,f6,Array.getElem?_modify]
 by_cases e:i=j
 ·rw [if_pos e]
  cases (pendingOf st)[j]? <;>rfl
 ·rw [if_neg e]
theorem SI.Fc{a0:Array Keyed}{lo n:Nat}(h:SI O key S k0 a0 st lo)(hn:1≤n)(hl:lo+n≤a0.size)(hs:hZ O key (arrOf st) lo (lo+n)):SI O key S k0 a0 (setPending st ((pendingOf st).push (lo,n,0))) (lo+n):=by
 refine ⟨⟨h.ok.mem,h.ok.kind⟩,h.failed,h.perm,?_,hl⟩;rw [Jh];exact iB.app.mpr ⟨lo,h.cov,rfl,hn,hs,rfl⟩
theorem sj(C:fM O key S k0 (model prog w) A E s){a0:Array Keyed}{lo n:Nat}(h:SI O key S k0 a0 st lo)(hn:1≤n)(hl:lo+n≤a0.size)(hs:hZ O key (arrOf st) lo (lo+n)):
  wpS (model prog w) A E s (kC a0.size lo n) (λr ai=>match r with| .done c=>False| .yield c=>c=(none,lo+n)∧SI O key S k0 a0 ai (lo+n)) st:=by
 unfold kC;refine wpS_bind (wpS_get ?_);cases (pendingOf st).back? with
 |none=>exact wpS_bind (wpS_modify (wpS_pure ⟨rfl,h.Fc hn hl hs⟩))
 |some e=>
  obtain ⟨s1,n1,p1⟩:=e;dsimp only;refine wpS_bind (wpS_mono (wpS_forRange (I:=λ(x:Nat)(c:U1)(ai:SortSt)=>c=(none,())∧SI O key S k0 a0 ai lo∧Kp st ai lo) (Q:=λc ai=>c=(none,())∧SI O key S k0 a0 ai lo∧Kp st ai lo) (λx c ai _ _ hh=>?_) (λc ai hh=>hh) ⟨rfl,h,λ_ _=>rfl⟩) ?_)
  ·refine wpS_mono (GJ C hh.2.1 hh.2.2) λr cu o=>?_
   cases r with
   |done d=>exact o
   |yield d=>exact o
  ·rintro c ai ⟨rfl,h',jF⟩
   dsimp only;refine wpS_bind (wpS_modify (wpS_bind (wpS_modify (wpS_pure ⟨rfl,?_⟩))))
   have h2:SI O key S k0 a0 (setPending ai ((pendingOf ai).modify ((pendingOf ai).size-1) λx=>(x.1,x.2.1,power' a0.size (2*s1+n1) (2*s1+n1+n1+n) a0.size))) lo:=
    ⟨⟨h'.ok.mem,h'.ok.kind⟩,h'.failed,h'.perm,by rw [DS];exact h'.cov,h'.le⟩
   exact h2.Fc hn hl (u5 (λi a1 a2=>jF i a1) hs)
theorem SI.Vg{a0:Array Keyed}{lo hi:Nat}{ai:SortSt}(h:SI O key S k0 a0 st lo)(t:fN st ai lo hi):SI O key S k0 a0 ai lo:=
 ⟨h.ok.step t,t.failed.trans h.failed,t.perm.trans h.perm,by
  have:pl ai=pl st:=by unfold pl;rw [t.pend]
  rw [this];exact iB.congr (λi _ a2=>t.out i (.inl a2)) h.cov,h.le⟩
theorem Er(C:fM O key S k0 (model prog w) A E s){a0:Array Keyed}{lo:Nat}(h:SI O key S k0 a0 st lo):
  wpS (model prog w) A E s (zQ a0.size lo) (λr ai=>match r with| .done c=>c=(none,lo)∧a0.size≤lo∧SI O key S k0 a0 ai lo| .yield c=>∃n,1≤n∧c=(none,lo+n)∧SI O key S k0 a0 ai (lo+n)) st:=by
 unfold zQ;have eD:=h.size;have hle:=h.le
 by_cases lT:lo≥a0.size
 ·rw [if_pos lT];exact wpS_pure ⟨rfl,lT,h⟩
 ·rw [if_neg lT]
  refine wpS_bind (wpS_countRun C h.ok (by omega) (by omega) λm zT t1 m1 m2 sm=>?_)
  dsimp only;have h1:=h.Vg t1;have aai:=h1.size
  by_cases bN:m<minRun' a0.size a0.size 0
  ·rw [if_pos bN]
   refine wpS_bind (wpS_lift (wpAny_rule ⟨rfl,?_⟩));refine wpS_bind (wpS_binarySort C h1.ok (by omega) (by omega) sm λjA t2 s2=>?_)
   rw [if_neg (by decide)]
   refine wpS_mono (sj C (h1.Vg t2) (by omega) (by omega) s2) λr ai o=>?_
   cases r with
   |done d=>exact o.elim
   |yield d=>exact ⟨_,by omega,o.1,o.2⟩
  ·rw [if_neg bN]
   refine wpS_mono (sj C h1 m1 (by omega) sm) λr ai o=>?_
   cases r with
   |done d=>exact o.elim
   |yield d=>exact ⟨_,m1,o.1,o.2⟩
theorem ite_le{c:Prop} [Decidable c] {p:Nat}:(if c then p-1 else p)≤p:=by split<;>omega
theorem Ep(C:fM O key S k0 (model prog w) A E s){a0:Array Keyed}{x:Nat}(h:SI O key S k0 a0 st a0.size)(hp:(pendingOf st).size≤max 1 (a0.size-x)):
  wpS (model prog w) A E s Ed (λr ai=>match r with| .done c=>c=(none,())∧SI O key S k0 a0 ai a0.size∧(pendingOf ai).size≤1| .yield c=>c=(none,())∧SI O key S k0 a0 ai a0.size∧(pendingOf ai).size≤max 1 (a0.size-(x+1))) st:=by
 unfold Ed;refine wpS_bind (wpS_get ?_)
 by_cases h1:(pendingOf st).size≤1
 ·rw [if_pos h1];exact wpS_pure ⟨rfl,h,h1⟩
 ·rw [if_neg h1]
  refine wpS_bind (Cg C h (Nat.lt_of_le_of_lt (Nat.succ_le_succ ite_le) (by omega)) λai h' e _=>?_)
  exact wpS_pure ⟨rfl,h',by omega⟩
theorem wpS_sortRuns(C:fM O key S k0 (model prog w) A E s){Q:Unit→SortSt→Prop}(o:Ok S k0 st)(hf:failedOf st=none)(hp:pendingOf st= #[])(h1:1≤(arrOf st).size)
  (q:∀ai,(arrOf ai).Perm (arrOf st)→failedOf ai=none→hZ O key (arrOf ai) 0 (arrOf st).size→Q () ai):wpS (model prog w) A E s sortRuns' Q st:=by
 rw [u0];refine wpS_bind (wpS_get ?_);have h0:SI O key S k0 (arrOf st) st 0:=⟨o,hf, .refl _,by unfold pl;rw [hp];rfl,cw _⟩
 refine wpS_bind (wpS_mono (wpS_forRange (I:=λ(x:Nat)(c:Option Unit×Nat)(ai:SortSt)=>∃lo,c=(none,lo)∧min x (arrOf st).size≤lo∧SI O key S k0 (arrOf st) ai lo) (Q:=λc ai=>c=(none,(arrOf st).size)∧SI O key S k0 (arrOf st) ai (arrOf st).size) (λx c ai _ _ hh=>?_) (λc ai hh=>?_) ⟨0,rfl,by omega,h0⟩) ?_)
 ·obtain ⟨lo,rfl,hx,hs⟩:=hh
  refine wpS_mono (Er C hs) λr cu o=>?_;cases r with
  |done d=>
   obtain ⟨e,e1,e2⟩:=o
   have:=e2.le
   have el:lo=(arrOf st).size:=by omega
   rw [el] at e e2;exact ⟨e,e2⟩
  |yield d=>
   obtain ⟨n,n1,e,e2⟩:=o;exact ⟨lo+n,e,by omega,e2⟩
 ·obtain ⟨lo,rfl,hx,hs⟩:=hh
  have:=hs.le
  have el:lo=(arrOf st).size:=by omega
  rw [el] at hs ⊢;exact ⟨rfl,hs⟩
 ·rintro c ai ⟨rfl,hs⟩
  dsimp only
  have hlen:(pendingOf ai).size≤(arrOf st).size:=by
   have:=hs.cov.le
   unfold pl at this;rw [aK,dA] at this;omega
  refine wpS_bind (wpS_mono (wpS_forRange (I:=λ(x:Nat)(c:U1)(ai:SortSt)=>c=(none,())∧SI O key S k0 (arrOf st) ai (arrOf st).size∧(pendingOf ai).size≤max 1 ((arrOf st).size-x)) (Q:=λc ai=>c=(none,())∧SI O key S k0 (arrOf st) ai (arrOf st).size∧(pendingOf ai).size≤1) (λx c ai _ _ hh=>?_) (λc ai hh=>?_) ⟨rfl,hs,by omega⟩) ?_)
  ·refine wpS_mono (Ep C hh.2.1 hh.2.2) λr cu o=>?_
   cases r with
   |done d=>exact o
   |yield d=>exact o
  ·exact ⟨hh.1,hh.2.1,by have:=hh.2.2;omega⟩
  ·rintro c cu ⟨rfl,iI,Sf⟩
   refine wpS_pure (q cu iI.perm iI.failed ?_);have hc:=iI.cov;have XJ:(pl cu).length≤1:=by unfold pl;rw [aK,dA];exact Sf
   match eU:pl cu,XJ with
   | [],_=>rw [eU] at hc;exact absurd hc (by show ¬(0=(arrOf st).size);omega)
   | [e],_=>
    rw [eU] at hc;obtain ⟨a1,a2,a3,a4⟩:=hc
    have:0+e.2=(arrOf st).size:=a4
    rw [←this];exact a3
end
section
variable {O:KeyOrd} {key:Keyed→O.α} {S:Keyed→Prop} {k0:SortKind} {prog:Program} {w:World} {A:Around} {E:Value→Shared→Prop} {s:Shared}
def Keeps(s s':Shared):Prop:=∀b o,s.heap.get? b=some o→s'.heap.get? b=some o
theorem rD(vs:List Value):(vs.toArray.zip vs.toArray).toList=vs.map λv=>(v,v):=by
 rw [Array.toList_zip];show List.zip vs vs=_
 induction vs with
 |nil=>rfl
 |cons v r ih=>rw [List.zip_cons_cons,iV,ih]
theorem LI{xs:Array Keyed}(h:hZ O key xs 0 xs.size):xs.toList.Pairwise (LE O key):=by
 rw [Ax];intro i j hi hj cy;rw [dA] at hi hj;exact eu h (cw _) (mK cy) hj (i7 (bA _)) (i7 (bA _))
theorem uz{a:Addr}{vs:List Value}{n:Nat}{P:PySem.Fin→Shared→Prop}(ho:s.heap.get? a=some (seqObj "list" vs.toArray n))(h2:2≤vs.length)(hz:vs.length≤1000)(ne:∀b o,s.heap.get? b=some o→b≠a→True)
  {s0:Shared} (YZ:∀b o,s0.heap.get? b=some o→b≠a∧s.heap.get? b=some o)
  (hk:∀(E:Value→Shared→Prop)(s':Shared)(Q':SortKind→Shared→Prop),Keeps s0 s'→Q' k0 s'→wpAny (model prog w) A (keyKind' vs.toArray) Q' E s')
  (C:∀(E:Value→Shared→Prop)(s':Shared),Keeps s0 s'→fM O key S k0 (model prog w) A E s') (mem:∀v∈vs,S (v,v))
  (h:∀out:Array Keyed,out.toList.Perm (vs.map λv=>(v,v))→out.toList.Pairwise (LE O key)→P (.done (.ret .none)) {s with heap:=sortedHeap s.heap a vs (out.map (·.2))}):
  wpAny (model prog w) A (Builtin.«list.sort» ⟨[.ref a],[]⟩) P E s:=by
 rw [list_sort_plain];have ha:a<s.heap.objs.size:=Heap.lt_size ho;have cz:1000<sizeLine:=by decide
 refine wpAny_bind (listItems_at ho rfl ?_);refine wpAny_bind (listUpdate_at ho rfl ?_ (by rw [b8];omega) (cw _))
 obtain ⟨e1,lh⟩:∃e1,(s.heap.update a (Obj.mapSeq λ_=> #[])).get? a=some (seqObj "list" #[] e1):=⟨_,get?_update_seq ho (λ_=> #[])⟩;refine wpAny_bind (seqEpoch_at lh rfl ?_);refine wpAny_bind (wpAny_newTuple ?_ (by show vs.length≤_;omega))
 refine wpAny_bind (wpAny_newList ?_ (cw _));refine wpAny_holding ?_
 have C3:(((s.heap.update a (Obj.mapSeq λ_=> #[])).push (seqObj "tuple" vs.toArray 0)).push (seqObj "list" #[] 0)).get? a=some (seqObj "list" #[] e1):=by
  rw [Heap.get?_push_ne _ _ _ (by rw [size_push',Heap.size_update];exact bQ (yD ha)),Heap.get?_push_ne _ _ _ (by rw [Heap.size_update];exact bQ ha)]
  exact lh
 show wpAny (model prog w) A _ P E {s with heap:=((s.heap.update a (Obj.mapSeq λ_=> #[])).push (seqObj "tuple" vs.toArray 0)).push (seqObj "list" #[] 0)}
 have kp:Keeps s0 {s with heap:=((s.heap.update a (Obj.mapSeq λ_=> #[])).push (seqObj "tuple" vs.toArray 0)).push (seqObj "list" #[] 0)}:=λb o e=>by
  obtain ⟨n1,e'⟩:=YZ b o e;refine Heap.get?_push_of_some _ (Heap.get?_push_of_some _ ?_);rw [Heap.get?_update_ne _ _ _ _ n1];exact e'
 dsimp only;have eD:vs.toArray.size=vs.length:=by simp
 have vZ:¬vs.toArray.size<2:=by omega
 rw [if_neg vZ,if_neg vZ];refine wpAny_bind (hk _ _ _ kp ?_);have hsz2:(vs.toArray.zip vs.toArray).size=vs.length:=by rw [←dA,rD,aK]
 refine wpAny_bind (wpAny_mono (wpS_sortRuns (C _ _ kp) (st:=SortSt.mk' k0 (vs.toArray.zip vs.toArray) #[] 7 none)
   (Q:=λ_ ai=>(arrOf ai).Perm (vs.toArray.zip vs.toArray)∧failedOf ai=none∧hZ O key (arrOf ai) 0 (vs.toArray.zip vs.toArray).size)
   ⟨λp hp=>?_,rfl⟩ rfl rfl (by show 1≤(vs.toArray.zip vs.toArray).size;omega) λai a1 a2 a3=>⟨a1,a2,a3⟩) ?_ λ_ _ e=>e)
 ·have h8:p∈(vs.toArray.zip vs.toArray).toList:=hp
  rw [rD] at h8;obtain ⟨v,hv,rfl⟩:=fg.mp h8;exact mem v hv
 rintro ⟨⟨⟩,ai⟩ s' ⟨rfl,hp,hf,hs⟩;dsimp only;have hps:(arrOf ai).size=vs.length:=by rw [hp.size_eq,hsz2]
 refine wpAny_bind (seqEpoch_at C3 rfl ?_);refine wpAny_bind (listUpdate_at C3 rfl ?_ (cw _) (by rw [Array.size_map];omega))
 rw [hf];simp only [bne_self_eq_false,kQ,if_false];refine wpAny_pure (h (arrOf ai) ?_ ?_)
 ·rw [←rD];exact Ft.mp hp
 ·refine LI ?_
  rw [hp.size_eq];exact hs
theorem B3{l:Addr}{vs:List Value}{Q:Value→Shared→Prop}(hl:s.heap.IsList l vs.toArray)(h2:2≤vs.length)(hz:vs.length≤1000)
  (hk:∀(E:Value→Shared→Prop)(s':Shared)(Q':SortKind→Shared→Prop),Keeps s s'→Q' k0 s'→wpAny (model prog w) A.in1.in1 (keyKind' vs.toArray) Q' E s')
  (C:∀(E:Value→Shared→Prop)(s':Shared),Keeps s s'→fM O key S k0 (model prog w) A.in1.in1 E s') (mem:∀v∈vs,S (v,v))
  (h:∀out:Array Keyed,out.toList.Perm (vs.map λv=>(v,v))→out.toList.Pairwise (LE O key)→Q (.ref (s.heap.objs.size+1)) {s with heap:=sortedAll s.heap vs (out.map (·.2))}):
  wpAny (model prog w) A (call (.builtin "sorted") [.ref l]) Q E s:=by
 have cz:1000<sizeLine:=by decide
 refine Calls.call_function_entry kind_sorted plain_sorted entry_sorted (args_sorted1 _) ?_;unfold Builtin.«sorted»;refine wpAny_bind (m:=checkCount "sorted" 1 1 _) (wpAny_pure ?_);refine wpAny_bind (collect_list hl ?_ (by omega))
 refine wpAny_bind (wpAny_newList ?_ (by show vs.length≤_;omega))
 have eD:((s.heap.push (seqObj "list" #[] 0)).update s.heap.objs.size (Obj.mapSeq (·++vs.toArray))).objs.size=s.heap.objs.size+1:=by
  rw [Heap.size_update,size_push']
 have Bp:(((s.heap.push (seqObj "list" #[] 0)).update s.heap.objs.size (Obj.mapSeq (·++vs.toArray))).push (seqObj "list" vs.toArray 0)).get? (s.heap.objs.size+1)=some (seqObj "list" vs.toArray 0):=by
  rw [←eD];exact Heap.get?_push_size _ rfl
 have keep:∀b o,s.heap.get? b=some o→(((s.heap.push (seqObj "list" #[] 0)).update s.heap.objs.size (Obj.mapSeq (·++vs.toArray))).push (seqObj "list" vs.toArray 0)).get? b=some o:=λb o q=>by
  have bN:b<s.heap.objs.size:=Heap.lt_size q;rw [Heap.get?_push_ne _ _ _ (by rw [eD];exact bQ (yD bN)),Heap.get?_update_ne _ _ _ _ (bQ bN),Heap.get?_push_ne _ _ _ (bQ bN)]
  exact q
 show wpAny _ _ _ _ _ {s with heap:=((s.heap.push (seqObj "list" #[] 0)).update s.heap.objs.size (Obj.mapSeq (·++vs.toArray))).push (seqObj "list" vs.toArray 0)}
 rw [eD];refine wpAny_bind (wpAny_holding (wpAny_call_entry slot_list_sort ⟨_,Bp,rfl⟩ entry_list_sort (uz (s0:=s) Bp h2 hz (λ_ _ _ _=>trivial) (λb o e=>⟨bQ (yD (Heap.lt_size e)),keep b o e⟩) hk C mem λout a1 a2=>⟨_,rfl,?_⟩) (args_list_sort _)));exact wpAny_pure ⟨_,rfl,h out a1 a2⟩
end
end TS
namespace L2
open PySem PySem.Spec PyProof.Rows
def lexOrd:KeyOrd where
 α:=Nat×Nat
 blt:=iK
 irrefl:=λa=>by unfold iK;rw [if_pos rfl];simp
 trans:=λa b c h1 h2=>Iw _ _ _ h1 h2
 negTrans:=λa b c h=>F4 _ _ _ h
 total:=λa b h1 h2=>Wb.F5 (uu h2) (uu h1)
def keyOf(L:List (Addr×(Nat×Nat)))(v:Keyed):Nat×Nat:=match v.1 with
 | .ref a=>((L.find? λe=>e.1==a).map (·.2)).getD (0,0)
 |_=>(0,0)
theorem DM{k k':Nat×Nat}(h:q0 k=q0 k'):k=k':=by
 unfold q0 at h
 injection h with h1 h2
 injection h2 with h2 _
 injection h1 with h1
 injection h2 with h2
 exact Prod.ext (by omega) (by omega)
theorem j8{H:Hp}{L:List (Addr×(Nat×Nat))}(hL:Cs H L){e:Addr×(Nat×Nat)}(he:e∈L)(v:Value):keyOf L (.ref e.1,v)=e.2:=by
 unfold keyOf;dsimp only;cases hf:L.find? λx=>x.1==e.1 with
 |none=>exact absurd (List.find?_eq_none.mp hf e he) (by simp)
 |some x=>
  have hx:=List.mem_of_find?_eq_some hf;have hb:=List.find?_some hf;have e1:x.1=e.1:=by simpa using hb
  have a1:=hL x hx;have a2:=hL e he;rw [e1,a2] at a1
  injection a1 with a1
  injection a1 with a1
  exact (DM a1).symm
theorem p5{α β:Type} [DecidableEq α] (f:α→β):∀(l:List β)(L:List α),l.Perm (L.map f)→∃M:List α,M.Perm L∧l=M.map f
 | [],L,h=>by
  have:=h.length_eq
  rw [aK] at this
  have:L= []:=Cm.mp this.symm
  subst this;exact ⟨[], .refl _,rfl⟩
 |x::r,L,h=>by
  obtain ⟨e,he,rfl⟩:=fg.mp (h.mem_iff.mp cB);have p1:=List.perm_cons_erase he;have p2:(f e::r).Perm (f e::(L.erase e).map f):=h.trans (p1.map f);obtain ⟨M,m1,rfl⟩:=p5 f r (L.erase e) ((List.perm_cons _).mp p2);exact ⟨e::M,(m1.cons e).trans p1.symm,rfl⟩
section
variable {X:Cx}
theorem vU:dU X (.builtin "sorted") (λxs H Q=>∃(p:Addr)(L:List (Addr×(Nat×Nat))),xs= [.ref p]∧cp X.K H p (L.map λe=>V.ref e.1)∧Cs H L∧L.length≤1000∧
  ∀(q:Addr)(M:List (Addr×(Nat×Nat))),H q=none→M.Perm L→(M.map (·.2)).Pairwise Wb.lexLe→Q (.ref q) (upd H q (.lst (M.map λe=>V.ref e.1)))):=by
 intro pins s σ H xs us Q I rv h;obtain ⟨p,L,rfl,hp,hL,hz,q⟩:=h;obtain ⟨u,rfl,ru⟩:=rv.one;cases ru;obtain ⟨its,r,pl,_⟩:=I.list hp;have hl:=r.length;rw [aK] at hl;have cz:1000<sizeLine:=by decide
 have ei:its=L.map λe=>Value.ref e.1:=by
  have:=u9 (as:=L.map (·.1)) (us:=its) (by rw [gh];exact r)
  rw [this,gh];rfl
 by_cases h2:L.length<2
 ·refine KS.wg pl.isList (by omega) ?_
  obtain ⟨e,he⟩:=sortedAll_at s.heap its its.toArray;have fr:H (s.heap.objs.size+1)=none:=I.hok.fresh (mQ _);refine ⟨.ref (s.heap.objs.size+1),_,I.laid (t':=s.toks) (λb o hb=>sortedAll_old hb) (mQ _) (o:= .lst (L.map λe=>V.ref e.1)) ⟨by rw [aK];omega,its,e,r,he⟩,rfl,q _ L fr (.refl _) ?_⟩
  match L,h2 with
  | [],_=>exact .nil
  | [_],_=>exact List.pairwise_singleton _ _
 ·have tup:∀e∈L,∀s':Shared,TS.Keeps s s'→∃t u,IsTup s'.heap e.1 [.int (e.2.1:Nat) t, .int (e.2.2:Nat) u].toArray:=λe he s' kp=>by
   obtain ⟨t,u,o,ho,hc,n,hd⟩:=Gi I (hL e he);exact ⟨t,u,o,kp _ _ ho,hc,n,hd⟩
  refine TS.B3 (O:=lexOrd) (key:=keyOf L) (S:=λp=>∃e∈L,p=(Value.ref e.1,Value.ref e.1)) (k0:=tuples' true) pl.isList (by omega) (by omega) (λE' s' Q' kp hq=>?_) (λE' s' kp x y st Q' sx sy hk hq=>?_) (λv hv=>?_) λout uj Ky=>?_
  ·have go:∀(M:List (Addr×(Nat×Nat))),(∀e∈M,e∈L)→∃fs:List Value,PySem.W.KatTups s'.heap (M.map λe=>Value.ref e.1) fs∧fs.length=M.length∧∀v∈fs,∃i t,v= .int i t:=by
    intro M
    induction M with
    |nil=>exact λ_=>⟨[],PySem.W.KatTups.nil,rfl,λv hv=>by cases hv⟩
    |cons e M ih=>
     intro hM;obtain ⟨fs,a,b,c⟩:=ih λx hx=>hM x (cI _ hx);obtain ⟨t,u,o,ho,hc,n,hd⟩:=tup e (hM e cB) s' kp;refine ⟨.int (e.2.1:Nat) t::fs,PySem.W.KatTups.cons ho hc hd rfl a,by simp [b],λv hv=>?_⟩
     rcases cn.mp hv with z|z
     ·exact ⟨_,_,z⟩
     ·exact c v z
   obtain ⟨fs,kt,kl,ki⟩:=go L λ_ h=>h;rw [ei];refine PySem.W.kat_kind (T:= .type "int") kt (by omega) (λv hv=>by obtain ⟨i,t,rfl⟩:=ki v hv;exact .now) (by decide) ?_
   have hb:(Value.type "int" !=Value.type "tuple")=true:=by decide
   rw [hb];exact hq
  ·obtain ⟨e1,m1,rfl⟩:=sx
   obtain ⟨e2,m2,rfl⟩:=sy;rw [lt'_eq];refine wpS_bind (wpS_get ?_);rw [hk];obtain ⟨t1,t2,k1⟩:=tup e1 m1 s' kp;obtain ⟨u1,u2,k2⟩:=tup e2 m2 s' kp;refine wpS_bind (wpS_lift (wpAny_attempt (KN k1 k2 ⟨rfl,?_⟩)))
   have eb:(if ((e1.2.1:Nat):Int)=((e2.2.1:Nat):Int) then decide (((e1.2.2:Nat):Int)<((e2.2.2:Nat):Int)) else decide (((e1.2.1:Nat):Int)<((e2.2.1:Nat):Int)))=lexOrd.blt (keyOf L (.ref e1.1, .ref e1.1)) (keyOf L (.ref e2.1, .ref e2.1)):=by
    rw [j8 hL m1,j8 hL m2];show _=iK e1.2 e2.2;unfold iK;simp only [Int.ofNat_inj,Int.ofNat_lt]
   rw [eb];exact wpS_pure hq
  ·rw [ei] at hv
   obtain ⟨e,he,rfl⟩:=fg.mp hv;exact ⟨e,he,rfl⟩
  ·rw [ei,gh] at uj
   obtain ⟨M,mp,em⟩:=p5 (λe:Addr×(Nat×Nat)=>((Value.ref e.1,Value.ref e.1):Keyed)) out.toList L uj
   have Sh:(out.map (·.2)).toList=M.map λe=>Value.ref e.1:=by
    rw [Array.toList_map,em,gh];rfl
   obtain ⟨c,hc⟩:=sortedAll_at s.heap its (out.map (·.2));have fr:H (s.heap.objs.size+1)=none:=I.hok.fresh (mQ _);have FW:=mp.length_eq;refine ⟨.ref (s.heap.objs.size+1),_,I.laid (t':=s.toks) (λb o hb=>sortedAll_old hb) (mQ _) (o:= .lst (M.map λe=>V.ref e.1)) ⟨by rw [aK];omega,(out.map (·.2)).toList,c,?_,by rw [Array.toArray_toList];exact hc⟩,rfl,q _ M fr mp ?_⟩
   ·rw [Sh,show (λe:Addr×(Nat×Nat)=>V.ref e.1)=V.ref∘(·.1) from rfl,show (λe:Addr×(Nat×Nat)=>Value.ref e.1)=Value.ref∘(·.1) from rfl,←gh,←gh]
    exact uR _
   ·rw [em,kS] at Ky
    rw [kS];refine List.Pairwise.imp_of_mem ?_ Ky;intro e1 e2 m1 m2 hle;have MA:iK (keyOf L (.ref e2.1, .ref e2.1)) (keyOf L (.ref e1.1, .ref e1.1))=false:=hle;rw [j8 hL (mp.mem_iff.mp m1),j8 hL (mp.mem_iff.mp m2)] at MA;exact uu MA
end
end L2
namespace PySem.SetTable
def nM(xs:Array Nat):Prop:=∀i j (hj:j<xs.size),i<j→xs[i]! <xs[j]!
theorem HN{xs:Array Nat}{i d:Nat}(h:i<xs.size):xs.getD i d=xs[i]! :=by
 simp [Array.getD,h]
theorem ud{xs:Array Nat}(R:nM xs)(j:Nat):∀(fuel lo hi:Nat),hi-lo≤fuel→lo≤hi→hi≤xs.size→(∀i,i<lo→xs[i]! <j)→(∀i,hi≤i→i<xs.size→j≤xs[i]!)→
  lo≤below.go xs j fuel lo hi∧below.go xs j fuel lo hi≤hi∧(∀i,i<below.go xs j fuel lo hi→xs[i]! <j)∧∀i,below.go xs j fuel lo hi≤i→i<xs.size→j≤xs[i]!
 |0,lo,hi,h1,h2,h3,a,b=>by
  have:lo=hi:=by omega
  subst this;rw [below.go];exact ⟨bx _,bx _,a,b⟩
 |fuel+1,lo,hi,h1,h2,h3,a,b=>by
  rw [below.go]
  by_cases c:lo<hi
  ·rw [if_pos c]
   have hm:(lo+hi) / 2<xs.size:=by omega
   dsimp only;rw [HN hm]
   by_cases d:xs[(lo+hi) / 2]! <j
   ·rw [if_pos d]
    have:=ud R j fuel ((lo+hi) / 2+1) hi (by omega) (by omega) h3 (λi h7=>by
     by_cases e:i=(lo+hi) / 2
     ·rw [e];exact d
     ·have:=R i ((lo+hi) / 2) hm (by omega);omega) b
    exact ⟨by omega,this.2.1,this.2.2⟩
   ·rw [if_neg d]
    have:=ud R j fuel lo ((lo+hi) / 2) (by omega) (by omega) (by omega) a (λi h4 h5=>by
     by_cases e:i=(lo+hi) / 2
     ·rw [e];omega
     ·have:=R ((lo+hi) / 2) i h5 (by omega);omega)
    exact ⟨this.1,by omega,this.2.2⟩
  ·rw [if_neg c]
   have:lo=hi:=by omega
   subst this;exact ⟨bx _,bx _,a,b⟩
theorem gE{xs:Array Nat}(R:nM xs)(j:Nat):below xs j≤xs.size∧(∀i,i<below xs j→xs[i]! <j)∧∀i,below xs j≤i→i<xs.size→j≤xs[i]! :=by
 have:=ud R j xs.size 0 xs.size (by omega) (cw _) (bx _) (λi h=>by omega) (λi h1 h2=>by omega)
 exact ⟨this.2.1,this.2.2⟩
theorem below_at{xs:Array Nat}(R:nM xs){i j:Nat}(h:xs[i]? =some j):below xs j=i:=by
 obtain ⟨hi,e⟩:=Ck.mp h;have e':xs[i]! =j:=by simp [hi,e]
 obtain ⟨b1,b2,b3⟩:=gE R j;apply Nat.le_antisymm
 ·apply Classical.byContradiction
  intro c
  have:=b2 i (by omega)
  omega
 ·apply Classical.byContradiction
  intro c;have h1:=b3 (below xs j) (bx _) (by omega)
  have h2:=R (below xs j) i hi (by omega)
  omega
theorem D7{t:SetTable}(R:nM t.place){i j:Nat}(h:t.place[i]? =some j):t.slot j= .live i:=by
 unfold slot;rw [below_at R h];simp [h]
theorem B0{t:SetTable}(R:nM t.place)(hd:t.dummies= #[]){j:Nat}(h:∀i:Nat,t.place[i]? ≠some j):t.slot j= .empty:=by
 unfold slot
 have h1:(t.place[below t.place j]? ==some j)=false:=by
  rw [beq_eq_false_iff_ne];exact h _
 dsimp only;rw [if_neg (by rw [h1];exact cN)]
 unfold has;rw [hd];rfl
def kZ(mask:Nat)(p:Probe):Probe:=
 if p.more>0 then {p with j:=p.j+1,more:=p.more-1} else
 let (i,perturb):=leap mask p.i p.perturb
 {p with j:=i,more:=runEnd mask i-i,i,perturb}
def bB(mask:Nat)(h:Int):Probe:={j:=bits h%(mask+1),more:=runEnd mask (bits h%(mask+1))-bits h%(mask+1),i:=bits h%(mask+1),perturb:=bits h,dummy:=none}
theorem GC(t:SetTable)(h:Int):t.probeStart h=bB t.mask h:=rfl
def wj(mask:Nat)(h:Int):Nat→Probe
 |0=>bB mask h
 |k+1=>kZ mask (wj mask h k)
def bU(mask:Nat)(h:Int)(k:Nat):Nat:=(wj mask h k).j
theorem Hf(h:Int):bits h<2^64:=by
 unfold bits;have h1:0≤h%(2^64:Int):=Int.emod_nonneg _ (by decide)
 have h2:h%(2^64:Int)<2^64:=Int.emod_lt_of_pos _ (by decide)
 omega
def dg(mask:Nat)(i p:Nat):Nat→Nat×Nat
 |0=>(i,p)
 |r+1=>leap mask (dg mask i p r).1 (dg mask i p r).2
theorem jt(mask i p:Nat):∀r,(dg mask i p r).2=p / 32^r
 |0=>by simp [dg]
 |r+1=>by
  show (dg mask i p r).2 / 32=_;rw [jt mask i p r,Nat.div_div_eq_div_mul,Nat.pow_succ]
def KW(mask:Nat)(i:Nat):Nat:=(i*5+1)%(mask+1)
def jb(mask:Nat)(i:Nat):Nat→Nat
 |0=>i
 |r+1=>KW mask (jb mask i r)
theorem jJ(mask i:Nat)(a:Nat):∀b,jb mask i (a+b)=jb mask (jb mask i a) b
 |0=>rfl
 |b+1=>by
  show KW mask (jb mask i (a+b))=_;rw [jJ mask i a b];rfl
theorem rq{mask i p r0:Nat}(h:(dg mask i p r0).2=0):∀r,dg mask i p (r0+r)=(jb mask (dg mask i p r0).1 r,0)
 |0=>by rw [Nat.add_zero,jb];exact Prod.ext rfl h
 |r+1=>by
  show leap mask (dg mask i p (r0+r)).1 (dg mask i p (r0+r)).2=_;rw [rq h r];unfold leap;simp [jb,KW]
def tI(mask:Nat):Prop:=mask=7∨mask=31∨mask=127∨mask=511
def O4(mask:Nat):Nat→Nat→List Nat
 |_,0=> []
 |i,n+1=>i::O4 mask (KW mask i) n
theorem BE{mask s:Nat}:∀{i n:Nat},s∈O4 mask i n→∃r,r<n∧jb mask i r=s
 |i,0,h=>by cases h
 |i,n+1,h=>by
  rcases cn.mp h with rfl|h
  ·exact ⟨0,by omega,rfl⟩
  ·obtain ⟨r,hr,e⟩:=BE h
   refine ⟨r+1,by omega,?_⟩
   have:=jJ mask i 1 r
   rw [show 1+r=r+1 by omega] at this
   rw [this];exact e
theorem O5{mask:Nat}(h:tI mask):(∀s,s≤mask→∃r,r≤mask∧jb mask 0 r=s)∧jb mask 0 (mask+1)=0:=by
 have key:∀m,(List.range (m+1)).all (λs=>(O4 m 0 (m+1)).contains s)=true→∀s,s≤m→∃r,r≤m∧jb m 0 r=s:=λm hm s hs=>by
  have:=List.all_eq_true.mp hm s (bH.mpr (by omega))
  obtain ⟨r,hr,e⟩:=BE (List.contains_iff_mem.mp this);exact ⟨r,by omega,e⟩
 rcases h with rfl|rfl|rfl|rfl
 ·exact ⟨key 7 (by decide+kernel),by decide+kernel⟩
 ·exact ⟨key 31 (by decide+kernel),by decide+kernel⟩
 ·exact ⟨key 127 (by decide+kernel),by decide+kernel⟩
 ·exact ⟨key 511 (by decide+kernel),by decide+kernel⟩
theorem cover{mask:Nat}(h:tI mask){i s:Nat}(hi:i≤mask)(hs:s≤mask):∃r,r≤mask∧jb mask i r=s:=by
 obtain ⟨o,per⟩:=O5 h;obtain ⟨a,ha,rfl⟩:=o i hi;obtain ⟨b,hb,rfl⟩:=o s hs
 by_cases c:a≤b
 ·refine ⟨b-a,by omega,?_⟩
  rw [←jJ,show a+(b-a)=b by omega]
 ·refine ⟨mask+1-a+b,by omega,?_⟩
  rw [←jJ,show a+(mask+1-a+b)=mask+1+b by omega,jJ,per]
def bZ(mask:Nat)(p:Probe):Nat→Probe
 |0=>p
 |k+1=>kZ mask (bZ mask p k)
theorem jC(mask:Nat)(p:Probe)(a:Nat):∀b,bZ mask p (a+b)=bZ mask (bZ mask p a) b
 |0=>rfl
 |b+1=>by
  show kZ mask (bZ mask p (a+b))=_;rw [jC mask p a b];rfl
theorem ni(mask:Nat)(h:Int):∀k,wj mask h k=bZ mask (bB mask h) k
 |0=>rfl
 |k+1=>by
  show kZ mask _=kZ mask _;rw [ni mask h k]
theorem qE(mask:Nat)(p:Probe):∀c,c≤p.more→bZ mask p c={p with j:=p.j+c,more:=p.more-c}
 |0,_=>rfl
 |c+1,hc=>by
  show kZ mask (bZ mask p c)=_;rw [qE mask p c (by omega)]
  unfold kZ;rw [if_pos (by show p.more-c>0;omega)]
  show ({p with j:=p.j+c+1,more:=p.more-c-1}:Probe)={p with j:=p.j+(c+1),more:=p.more-(c+1)}
  rw [show p.more-c-1=p.more-(c+1) by omega,show p.j+c+1=p.j+(c+1) by omega]
def LJ(mask:Nat)(p:Probe)(ip:Nat×Nat):Probe:={p with j:=ip.1,more:=runEnd mask ip.1-ip.1,i:=ip.1,perturb:=ip.2}
theorem more_le(mask i:Nat):runEnd mask i-i≤9:=by
 unfold runEnd
 split<;>omega
theorem oj(mask:Nat)(p:Probe):bZ mask p (p.more+1)=LJ mask p (leap mask p.i p.perturb):=by
 show kZ mask (bZ mask p p.more)=_;rw [qE mask p p.more (bx _)];unfold kZ;rw [if_neg (by show ¬p.more-p.more>0;omega)]
 rfl
theorem tL(mask:Nat)(p:Probe):∀r,∃k,k≤p.more+1+10*r∧bZ mask p k=LJ mask p (dg mask p.i p.perturb (r+1))
 |0=>⟨p.more+1,by omega,oj mask p⟩
 |r+1=>by
  obtain ⟨k,hk,e⟩:=tL mask p r;have h9:=more_le mask (dg mask p.i p.perturb (r+1)).1;refine ⟨k+((runEnd mask (dg mask p.i p.perturb (r+1)).1-(dg mask p.i p.perturb (r+1)).1)+1),by omega,?_⟩
  rw [jC,e];exact oj mask (LJ mask p (dg mask p.i p.perturb (r+1)))
theorem BW(mask i p:Nat)(r:Nat):(dg mask i p (r+1)).1≤mask:=by
 show (((dg mask i p r).1*5+1+(dg mask i p r).2 / 32)%(mask+1))≤mask
 have:=og ((dg mask i p r).1*5+1+(dg mask i p r).2 / 32) (show 0<mask+1 by omega)
 omega
theorem Fh{mask i:Nat}(h:i≤mask):i+(runEnd mask i-i)≤mask:=by
 unfold runEnd
 split<;>omega
structure sF (mask:Nat) (p:Probe):Prop where
 le:p.j+p.more≤mask
 more:p.more≤9
 per:p.perturb<2^64
 dum:p.dummy=none
theorem sF.kZ{mask:Nat}{p:Probe}(o:sF mask p):sF mask (kZ mask p):=by
 unfold SetTable.kZ
 split
 ·next h=>exact ⟨by show p.j+1+(p.more-1)≤mask;have:=o.le;omega,by show p.more-1≤9;have:=o.more;omega,o.per,o.dum⟩
 ·refine ⟨Fh (by have:=og (p.i*5+1+p.perturb / 32) (show 0<mask+1 by omega);show (p.i*5+1+p.perturb / 32)%(mask+1)≤mask;omega),more_le _ _,?_,o.dum⟩
  show p.perturb / 32<2^64
  have:=o.per
  omega
theorem sF.start(mask:Nat)(h:Int):sF mask (bB mask h):=⟨Fh (mask:=mask) (i:=bits h%(mask+1)) (by have:=og (bits h) (show 0<mask+1 by omega);omega),more_le _ _,Hf h,rfl⟩
theorem sF.bZ{mask:Nat}{p:Probe}(o:sF mask p):∀k,sF mask (bZ mask p k)
 |0=>o
 |k+1=>(o.bZ k).kZ
theorem meets{mask:Nat}(f:tI mask){p:Probe}(o:sF mask p){s:Nat}(hs:s≤mask):∃k,k<10*turns mask∧(bZ mask p k).j=s:=by
 have z:(dg mask p.i p.perturb 13).2=0:=by
  rw [jt];exact Nat.div_eq_of_lt (gf o.per (by decide))
 obtain ⟨r,hr,e⟩:=cover f (BW mask p.i p.perturb 12) hs;obtain ⟨k,hk,e2⟩:=tL mask p (12+r);refine ⟨k,?_,?_⟩
 ·have:=o.more
  unfold turns;omega
 ·rw [e2]
  show (dg mask p.i p.perturb (12+r+1)).1=s;rw [show 12+r+1=13+r by omega,rq z]
  exact e
theorem xl{t:SetTable}(R:nM t.place)(hd:t.dummies= #[])(hashAt:Nat→Int)(h:Int):∀(K fuel:Nat)(p:Probe),p.dummy=none→K<fuel→(∀i:Nat,t.place[i]? ≠some (bZ t.mask p K).j)→
  ∃k0,k0≤K∧(∀k',k'<k0→∃i:Nat,t.place[i]? =some (bZ t.mask p k').j∧hashAt i≠h)∧
   (((∀i:Nat,t.place[i]? ≠some (bZ t.mask p k0).j)∧probe.go t hashAt h fuel p=some (.empty (bZ t.mask p k0).j none))∨
    (∃i:Nat,t.place[i]? =some (bZ t.mask p k0).j∧hashAt i=h∧probe.go t hashAt h fuel p=some (.candidate (bZ t.mask p k0).j i (bZ t.mask p (k0+1)))))
 |K,0,p,_,hK,_=>by omega
 |K,fuel+1,p,dn,hK,he=>by
  by_cases c:∃i:Nat,t.place[i]? =some p.j
  ·obtain ⟨i,hi⟩:=c
   have sl:=D7 R hi
   by_cases c2:hashAt i=h
   ·refine ⟨0,cw _,λk' h'=>by omega, .inr ⟨i,hi,c2,?_⟩⟩
    rw [probe.go,sl];dsimp only;rw [if_pos (by simpa using c2)]
    rfl
   ·cases K with
    |zero=>exact absurd hi (he i)
    |succ K=>
     have WZ:(kZ t.mask p).dummy=none:=by
      unfold kZ
      split<;>exact dn
     have e1:∀k,bZ t.mask (kZ t.mask p) k=bZ t.mask p (k+1):=λk=>by
      have:=jC t.mask p 1 k
      rw [show 1+k=k+1 by omega] at this
      exact this.symm
     obtain ⟨k0,zc,a,b⟩:=xl R hd hashAt h K fuel (kZ t.mask p) WZ (by omega) (by rw [e1];exact he)
     have eg:probe.go t hashAt h (fuel+1) p=probe.go t hashAt h fuel (kZ t.mask p):=by
      rw [probe.go,sl];dsimp only;rw [if_neg (by simpa using c2)]
      rfl
     refine ⟨k0+1,by omega,λk' h'=>?_,?_⟩
     ·cases k' with
      |zero=>exact ⟨i,hi,c2⟩
      |succ k'=>
       have:=a k' (by omega)
       rw [e1] at this;exact this
     ·rw [e1,e1] at b
      rw [eg];exact b
  ·have c:∀i:Nat,t.place[i]? ≠some p.j:=λi hi=>c ⟨i,hi⟩
   refine ⟨0,cw _,λk' h'=>by omega, .inl ⟨c,?_⟩⟩
   rw [probe.go,B0 R hd c];dsimp only;rw [dn];rfl
structure TOk (t:SetTable) (hs:List Int):Prop where
 few:tI t.mask
 dum:t.dummies= #[]
 rise:nM t.place
 size:t.place.size=hs.length
 le:∀(i j:Nat),t.place[i]? =some j→j≤t.mask
 room:t.place.size≤t.mask
 path:∀(i:Nat)(h:Int),hs[i]? =some h→∃k,t.place[i]? =some (bU t.mask h k)∧∀k',k'<k→∃i':Nat,t.place[i']? =some (bU t.mask h k')
theorem zP(mask:Nat)(h:Int)(k:Nat):bU mask h k≤mask:=by
 unfold bU;rw [ni]
 have:=((sF.start mask h).bZ k).le
 omega
theorem TOk.empty{t:SetTable}{hs:List Int}(T:TOk t hs):∃s,s≤t.mask∧∀i:Nat,t.place[i]? ≠some s:=by
 apply Classical.byContradiction;intro c
 have all:∀s∈List.range (t.mask+1),s∈t.place.toList:=λs hs=>by
  apply Classical.byContradiction;intro n;refine c ⟨s,by have:=bH.mp hs;omega,λi hi=>n ?_⟩
  rw [←f6] at hi;exact gd hi
 have:=Wb.aM kF all
 rw [ji,dA] at this
 have:=T.room
 omega
theorem TOk.probe{t:SetTable}{hs:List Int}(T:TOk t hs)(hashAt:Nat→Int)(h:Int)(k:Nat):
  ∃k0,k≤k0∧(∀k',k≤k'→k'<k0→∃i:Nat,t.place[i]? =some (bU t.mask h k')∧hashAt i≠h)∧
   (((∀i:Nat,t.place[i]? ≠some (bU t.mask h k0))∧t.probe hashAt h (wj t.mask h k)=some (.empty (bU t.mask h k0) none))∨
    (∃i:Nat,t.place[i]? =some (bU t.mask h k0)∧hashAt i=h∧t.probe hashAt h (wj t.mask h k)=some (.candidate (bU t.mask h k0) i (wj t.mask h (k0+1))))):=by
 obtain ⟨s,dX,he⟩:=T.empty;have o:=(sF.start t.mask h).bZ k;rw [←ni] at o;obtain ⟨K,hK,eK⟩:=meets T.few o dX;have e1:∀c,bZ t.mask (wj t.mask h k) c=wj t.mask h (k+c):=λc=>by rw [ni,ni,←jC]
 obtain ⟨k0,h0,a,b⟩:=xl T.rise T.dum hashAt h K (10*turns t.mask) (wj t.mask h k) o.dum hK (by rw [eK];exact he)
 refine ⟨k+k0,by omega,λk' h1 h2=>?_,?_⟩
 ·have:=a (k'-k) (by omega)
  rw [e1,show k+(k'-k)=k' by omega] at this
  exact this
 ·rw [e1,e1] at b
  exact b
theorem jo{α:Type}{xs:Array α}{p:Nat}(x:α)(hp:p≤xs.size)(i:Nat):(insertAt xs p x)[i]? =if i<p then xs[i]? else if i=p then some x else xs[i-1]? :=by
 rw [←f6,SetTable.toList_insertAt];have lt:(xs.toList.take p).length=p:=by rw [cm,dA];omega
 by_cases c:i<p
 ·rw [if_pos c,eB (by omega),sA c,f6]
 ·rw [if_neg c]
  by_cases d:i=p
  ·subst d
   rw [if_pos rfl,fZ (by omega),lt,jj];rfl
  ·rw [if_neg d,fZ (by omega),lt]
   obtain ⟨m,hm⟩:∃m,i-p=m+1:=⟨i-p-1,by omega⟩
   rw [hm,sC,qy,f6]
   congr 1;omega
theorem fU{α:Type}(xs:Array α)(p:Nat)(x:α):(insertAt xs p x).size=xs.size+1:=by
 rw [←dA,(SetTable.insertAt_perm xs p x).length_eq];simp
theorem iq{xs:Array Nat}{i j:Nat}(h:xs[i]? =some j):xs[i]! =j:=by
 obtain ⟨hi,e⟩:=Ck.mp h;simp [hi,e]
theorem Gw{xs:Array Nat}(R:nM xs){j:Nat}(h:∀i:Nat,xs[i]? ≠some j):nM (insertAt xs (below xs j) j):=by
 obtain ⟨b1,b2,b3⟩:=gE R j;have g:=jo (xs:=xs) j b1;intro a b hb Bi;rw [fU] at hb
 have val:∀i,i<xs.size+1→∃v,(insertAt xs (below xs j) j)[i]? =some v∧((i<below xs j∧xs[i]? =some v)∨(i=below xs j∧v=j)∨(below xs j<i∧xs[i-1]? =some v)):=λi hi=>by
  rw [g i]
  by_cases c:i<below xs j
  ·rw [if_pos c,su (by omega)]
   exact ⟨_,rfl, .inl ⟨c,rfl⟩⟩
  ·rw [if_neg c]
   by_cases d:i=below xs j
   ·rw [if_pos d];exact ⟨j,rfl, .inr (.inl ⟨d,rfl⟩)⟩
   ·rw [if_neg d,su (by omega)]
    exact ⟨_,rfl, .inr (.inr ⟨by omega,rfl⟩)⟩
 obtain ⟨va,ha,ca⟩:=val a (by omega)
 obtain ⟨vb,Kr,cb⟩:=val b (by omega)
 rw [iq ha,iq Kr];have lo:∀i v,i<below xs j→xs[i]? =some v→v<j:=λi v h1 h2=>by have:=b2 i h1;rw [iq h2] at this;exact this
 have hi:∀i v,below xs j≤i→xs[i]? =some v→j<v:=λi v h1 h2=>by
  have:=b3 i h1 (Ck.mp h2).1
  rw [iq h2] at this
  have:v≠j:=λz=>h i (by rw [h2,z])
  omega
 have mid:∀i k v u,xs[i]? =some v→xs[k]? =some u→i<k→v<u:=λi k v u h1 h2 h3=>by
  have:=R i k (Ck.mp h2).1 h3
  rw [iq h1,iq h2] at this;exact this
 rcases ca with ⟨a1,a2⟩ | ⟨a1,rfl⟩ | ⟨a1,a2⟩
 ·rcases cb with ⟨c1,c2⟩ | ⟨c1,rfl⟩ | ⟨c1,c2⟩
  ·exact mid _ _ _ _ a2 c2 Bi
  ·exact lo _ _ a1 a2
  ·have:=lo _ _ a1 a2;have:=hi (b-1) _ (by omega) c2;omega
 ·rcases cb with ⟨c1,c2⟩ | ⟨c1,rfl⟩ | ⟨c1,c2⟩
  ·omega
  ·omega
  ·exact hi (b-1) _ (by omega) c2
 ·rcases cb with ⟨c1,c2⟩ | ⟨c1,rfl⟩ | ⟨c1,c2⟩
  ·omega
  ·omega
  ·exact mid _ _ _ _ a2 c2 (by omega)
theorem Jp{xs:Array Nat}(R:nM xs){j s:Nat}:(∃i:Nat,(insertAt xs (below xs j) j)[i]? =some s)↔s=j∨∃i:Nat,xs[i]? =some s:=by
 obtain ⟨b1,_,_⟩:=gE R j;have g:=jo (xs:=xs) j b1
 constructor
 ·rintro ⟨i,h⟩
  rw [g i] at h
  split at h
  ·exact .inr ⟨i,h⟩
  ·split at h
   ·exact .inl (Option.some.inj h).symm
   ·exact .inr ⟨_,h⟩
 ·rintro (rfl| ⟨i,h⟩)
  ·exact ⟨below xs s,by rw [g,if_neg (by omega),if_pos rfl]⟩
  ·by_cases c:i<below xs j
   ·exact ⟨i,by rw [g,if_pos c];exact h⟩
   ·exact ⟨i+1,by rw [g,if_neg (by omega),if_neg (by omega)];exact h⟩
theorem TOk.put{t:SetTable}{hs:List Int}(T:TOk t hs){h:Int}{k:Nat}(he:∀i:Nat,t.place[i]? ≠some (bU t.mask h k))(hp:∀k',k'<k→∃i:Nat,t.place[i]? =some (bU t.mask h k'))(room:t.place.size+1≤t.mask):
  (t.put (bU t.mask h k)).2=below t.place (bU t.mask h k)∧below t.place (bU t.mask h k)≤hs.length∧
  TOk (t.put (bU t.mask h k)).1 (hs.take (below t.place (bU t.mask h k))++h::hs.drop (below t.place (bU t.mask h k))):=by
 obtain ⟨b1,b2,b3⟩:=gE T.rise (bU t.mask h k);have g:=jo (xs:=t.place) (bU t.mask h k) b1;have sz:=T.size;have pm:=λs=>Jp (s:=s) (j:=bU t.mask h k) T.rise;refine ⟨rfl,by omega,T.few,?_,Gw T.rise he,?_,?_,?_,?_⟩
 ·show (if has t.dummies _=true then _ else t.dummies)= #[]
  rw [T.dum];rfl
 ·show (insertAt t.place _ _).size=_
  rw [fU,b9,cm,dh,fw];omega
 ·intro i j hj
  have hj:(insertAt t.place (below t.place (bU t.mask h k)) (bU t.mask h k))[i]? =some j:=hj
  rcases (pm j).mp ⟨i,hj⟩ with rfl| ⟨i',h'⟩
  ·exact zP _ _ _
  ·exact T.le _ _ h'
 ·show (insertAt t.place _ _).size≤_
  rw [fU];exact room
 ·intro i h' hi
  show ∃k1,(insertAt t.place (below t.place (bU t.mask h k)) (bU t.mask h k))[i]? =some (bU t.mask h' k1)∧∀k',k'<k1→∃i':Nat,(insertAt t.place (below t.place (bU t.mask h k)) (bU t.mask h k))[i']? =some (bU t.mask h' k');have lt:(hs.take (below t.place (bU t.mask h k))).length=below t.place (bU t.mask h k):=by rw [cm];omega
  by_cases c:i<below t.place (bU t.mask h k)
  ·rw [eB (by omega),sA c] at hi
   obtain ⟨k1,e1,e2⟩:=T.path i h' hi;exact ⟨k1,by rw [g,if_pos c];exact e1,λk' jF=>(pm _).mpr (.inr (e2 k' jF))⟩
  ·rw [fZ (by omega),lt] at hi
   by_cases d:i=below t.place (bU t.mask h k)
   ·rw [d,jj] at hi
    cases (Option.some.inj hi);exact ⟨k,by rw [d,g,if_neg (by omega),if_pos rfl],λk' jF=>(pm _).mpr (.inr (hp k' jF))⟩
   ·obtain ⟨m,hm⟩:∃m,i-below t.place (bU t.mask h k)=m+1:=⟨i-below t.place (bU t.mask h k)-1,by omega⟩
    rw [hm,sC,qy] at hi;obtain ⟨k1,e1,e2⟩:=T.path _ h' hi;refine ⟨k1,?_,λk' jF=>(pm _).mpr (.inr (e2 k' jF))⟩;rw [g,if_neg c,if_neg d,show i-1=below t.place (bU t.mask h k)+m by omega]
    exact e1
theorem rX(mask i p:Nat):∀r,dg mask i p (r+1)=dg mask (leap mask i p).1 (leap mask i p).2 r
 |0=>rfl
 |r+1=>by
  show leap mask (dg mask i p (r+1)).1 (dg mask i p (r+1)).2=_;rw [rX mask i p r];rfl
def Own(o:Array (Option Nat))(s:Nat):Prop:=(o.getD s (some 0)).isNone=false
theorem ub{mask:Nat}(owner:Array (Option Nat)):∀(fuel:Nat)(p:Probe),p.j=p.i→p.more=runEnd mask p.i-p.i→p.i≤runEnd mask p.i→(∃r,r<fuel∧¬Own owner (dg mask p.i p.perturb r).1)→
  ∃k0,layClean.free mask owner fuel p.i p.perturb=some (bZ mask p k0).j∧¬Own owner (bZ mask p k0).j∧∀k',k'<k0→Own owner (bZ mask p k').j
 |0,p,_,_,_,⟨r,hr,_⟩=>by omega
 |fuel+1,p,e1,e2,e3,⟨r,hr,he⟩=>by
  have run:∀c,c≤p.more→(bZ mask p c).j=p.i+c:=λc hc=>by rw [qE mask p c hc];show p.j+c=_;rw [e1]
  cases hf:(List.range (runEnd mask p.i+1-p.i)).find? λk=>(owner.getD (p.i+k) (some 0)).isNone with
  |some k=>
   obtain ⟨h1,as,bs,h2,h3⟩:=List.find?_eq_some_iff_append.mp hf;have hk:k<runEnd mask p.i+1-p.i:=bH.mp (by rw [h2];simp)
   have las:as.length=k:=by
    have hl:as.length<(List.range (runEnd mask p.i+1-p.i)).length:=by rw [h2];simp
    have:=AD (n:=runEnd mask p.i+1-p.i) (i:=as.length) (by simpa using hl)
    rw [h2,fZ (bx _),jj] at this;exact (Option.some.inj this).symm
   refine ⟨k,?_,?_,λk' jF=>?_⟩
   ·rw [layClean.free,hf,run k (by omega)]
   ·rw [run k (by omega)]
    unfold Own;rw [h1];exact Bool.noConfusion
   ·rw [run k' (by omega)]
    have hm:k'∈as:=by
     have:=AD (n:=runEnd mask p.i+1-p.i) (i:=k') (by omega)
     rw [h2,eB (by omega)] at this
     exact gd this
    have:=h3 k' hm
    unfold Own;exact Bool.not_eq_true' _▸this
  |none=>
   have all:=List.find?_eq_none.mp hf
   have own:∀c,c≤p.more→Own owner (p.i+c):=λc hc=>by
    have:=all c (bH.mpr (by omega))
    unfold Own;exact yE.mpr this
   cases r with
   |zero=>exact absurd (own 0 (cw _)) he
   |succ r=>
    have lp:=oj mask p
    obtain ⟨k0,a,b,c⟩:=ub owner fuel (LJ mask p (leap mask p.i p.perturb)) rfl rfl (by
     show (leap mask p.i p.perturb).1≤runEnd mask (leap mask p.i p.perturb).1;unfold runEnd;split<;>omega) ⟨r,by omega,by rw [rX] at he;exact he⟩
    rw [←lp] at a b c;have e4:∀k,bZ mask (bZ mask p (p.more+1)) k=bZ mask p (p.more+1+k):=λk=>(jC mask p (p.more+1) k).symm;refine ⟨p.more+1+k0,?_,?_,λk' jF=>?_⟩
    ·rw [layClean.free,hf,←e4,←a,lp];rfl
    ·rw [←e4];exact b
    ·by_cases d:k'≤p.more
     ·rw [run k' d];exact own k' d
     ·have:=c (k'-(p.more+1)) (by omega)
      rw [e4,show p.more+1+(k'-(p.more+1))=k' by omega] at this
      exact this
structure Laid (mask:Nat) (hs:List Int) (owner:Array (Option Nat)) (ss:List Nat):Prop where
 size:owner.size=mask+1
 len:ss.length=hs.length
 nd:ss.Nodup
 le:∀s∈ss,s≤mask
 get:∀s,s≤mask→∀k,owner.getD s (some 0)=some k↔ss[k]? =some s
 path:∀(k:Nat)(h:Int),hs[k]? =some h→∃c,ss[k]? =some (bU mask h c)∧∀c',c'<c→bU mask h c'∈ss
theorem Laid.own{mask:Nat}{hs:List Int}{owner:Array (Option Nat)}{ss:List Nat}(L:Laid mask hs owner ss){s:Nat}(h:s≤mask):Own owner s↔s∈ss:=by
 unfold Own
 constructor
 ·intro e
  cases o:owner.getD s (some 0) with
  |none=>rw [o] at e;cases e
  |some k=>exact gd ((L.get s h k).mp o)
 ·intro e
  obtain ⟨k,hk⟩:=vD e;rw [(L.get s h k).mpr hk];rfl
theorem Dd{mask:Nat}(f:tI mask){hs:List Int}{owner:Array (Option Nat)}{ss:List Nat}(L:Laid mask hs owner ss)(room:hs.length≤mask)(h:Int):
  ∃j,layClean.free mask owner (turns mask) (bits h%(mask+1)) (bits h)=some j∧Laid mask (hs++ [h]) (owner.setIfInBounds j (some hs.length)) (ss++ [j]):=by
 have o:=sF.start mask h
 obtain ⟨s,v7,iI⟩:∃s,s≤mask∧s∉ss:=by
  apply Classical.byContradiction;intro c
  have all:∀s∈List.range (mask+1),s∈ss:=λs hs=>by
   apply Classical.byContradiction;intro n;exact c ⟨s,by have:=bH.mp hs;omega,n⟩
  have:=Wb.aM kF all
  rw [ji,L.len] at this;omega
 have z:(dg mask (bB mask h).i (bB mask h).perturb 13).2=0:=by
  rw [jt];exact Nat.div_eq_of_lt (gf o.per (by decide))
 obtain ⟨r,hr,e⟩:=cover f (BW mask (bB mask h).i (bB mask h).perturb 12) v7
 have hi:(bB mask h).i≤mask:=by
  have:=og (bits h) (show 0<mask+1 by omega)
  show bits h%(mask+1)≤mask;omega
 obtain ⟨k0,a,b,c⟩:=ub owner (turns mask) (bB mask h) rfl rfl (by unfold runEnd;split<;>omega) ⟨13+r,by unfold turns;omega,by
  rw [rq z];show ¬Own owner (jb mask _ r);rw [e,L.own v7];exact iI⟩
 have sl:∀k,(bZ mask (bB mask h) k).j=bU mask h k:=λk=>by unfold bU;rw [ni]
 rw [sl] at a b;have hle:=zP mask h k0;rw [L.own hle] at b;refine ⟨bU mask h k0,a,?_,?_,?_,?_,?_,?_⟩
 ·rw [Array.size_setIfInBounds];exact L.size
 ·rw [b9,b9,L.len];rfl
 ·exact fe.mpr ⟨L.nd,by simp,λx hx y hy z=>b (by rw [←fL.mp hy,←z];exact hx)⟩
 ·intro x hx
  rcases cv.mp hx with hx|hx
  ·exact L.le x hx
  ·rw [fL.mp hx];exact hle
 ·intro x hx k
  have e1:(owner.setIfInBounds (bU mask h k0) (some hs.length)).getD x (some 0)=if bU mask h k0=x then some hs.length else owner.getD x (some 0):=by
   rw [Cj,Cj,Array.getElem?_setIfInBounds]
   by_cases d:bU mask h k0=x
   ·rw [if_pos d,if_pos d,if_pos (by rw [L.size];omega)];rfl
   ·rw [if_neg d,if_neg d]
  rw [e1]
  by_cases d:bU mask h k0=x
  ·rw [if_pos d]
   constructor
   ·intro e
    cases (Option.some.inj e);rw [←L.len,fZ (bx _),jj,←d];rfl
   ·intro e
    by_cases q:k<ss.length
    ·rw [eB q] at e
     exact absurd (by rw [d];exact gd e) b
    ·have:k<(ss++ [bU mask h k0]).length:=(eO.mp e).1
     rw [b9] at this
     have:k<ss.length+1:=this
     rw [show k=ss.length by omega,L.len]
  ·rw [if_neg d,L.get x hx k]
   constructor
   ·intro e
    rw [eB (eO.mp e).1];exact e
   ·intro e
    by_cases q:k<ss.length
    ·rw [eB q] at e;exact e
    ·have:k<(ss++ [bU mask h k0]).length:=(eO.mp e).1
     rw [b9] at this
     have:k<ss.length+1:=this
     rw [show k=ss.length by omega,fZ (bx _),jj] at e
     exact absurd (Option.some.inj e) d
 ·intro k h' hk
  by_cases q:k<hs.length
  ·rw [eB q] at hk
   obtain ⟨c1,e1,e2⟩:=L.path k h' hk;exact ⟨c1,by rw [eB (by rw [L.len];exact q)];exact e1,λc' uf=>fb _ (e2 c' uf)⟩
  ·have:k<(hs++ [h]).length:=(eO.mp hk).1
   rw [b9] at this
   have:k<hs.length+1:=this
   have ek:k=hs.length:=by omega
   subst ek;rw [fZ (bx _),jj] at hk;cases (Option.some.inj hk);refine ⟨k0,by rw [←L.len,fZ (bx _),jj];rfl,λc' uf=>fb _ ?_⟩
   have:=c c' uf
   rw [sl] at this;exact (L.own (zP _ _ _)).mp this
theorem De(mask:Nat):Laid mask [] (Array.replicate (mask+1) none) [] where
 size:=by simp
 len:=rfl
 nd:=kW
 le:=λs h=>by cases h
 get:=λs hs k=>by
  rw [Cj,Array.getElem?_replicate,if_pos (by omega)]
  simp
 path:=λk h e=>by cases e
def wW(mask:Nat)(acc:Option (Array (Option Nat)×Nat))(h:Int):Option (Array (Option Nat)×Nat):=do
 let (owner,k) ←acc
 let j ←layClean.free mask owner (turns mask) (bits h%(mask+1)) (bits h)
 pure (owner.setIfInBounds j (some k),k+1)
theorem wX{mask:Nat}(f:tI mask):∀(rest done:List Int)(owner:Array (Option Nat))(ss:List Nat),Laid mask done owner ss→done.length+rest.length≤mask+1→
  ∃pX Pq,rest.foldl (wW mask) (some (owner,done.length))=some (pX,done.length+rest.length)∧Laid mask (done++rest) pX Pq
 | [],done,owner,ss,L,_=>⟨owner,ss,rfl,by rw [hJ];exact L⟩
 |h::rest,done,owner,ss,L,hl=>by
  rw [dh] at hl;obtain ⟨j,e,L'⟩:=Dd f L (by omega) h
  have ef:wW mask (some (owner,done.length)) h=some (owner.setIfInBounds j (some done.length),done.length+1):=by
   unfold wW;simp [e]
  obtain ⟨pX,Pq,e2,L2⟩:=wX f rest (done++ [h]) _ _ L' (by rw [b9];show done.length+1+rest.length≤_;omega)
  refine ⟨pX,Pq,?_,by rw [kR] at L2;exact L2⟩
  rw [List.foldl_cons,ef];rw [b9] at e2;have e2:rest.foldl (wW mask) (some (owner.setIfInBounds j (some done.length),done.length+1))=some (pX,done.length+1+rest.length):=e2;rw [e2,dh]
  congr 2;omega
theorem zo{mask:Nat}(f:tI mask)(hs:List Int)(room:hs.length≤mask+1):∃owner ss,layClean mask hs.toArray=some owner∧Laid mask hs owner ss:=by
 obtain ⟨owner,ss,e,L⟩:=wX f hs [] _ _ (De mask) (by simpa using room)
 refine ⟨owner,ss,?_,by simpa using L⟩
 have:layClean mask hs.toArray=(hs.foldl (wW mask) (some (Array.replicate (mask+1) none,0))).map (·.1):=by
  unfold layClean;rw [List.foldl_toArray];rfl
 have e:hs.foldl (wW mask) (some (Array.replicate (mask+1) none,0))=some (owner,[].length+hs.length):=e;rw [this,e];rfl
def cY(mask:Nat)(owner:Array (Option Nat)):List (Nat×Nat):=(List.range (mask+1)).filterMap λj=>(owner.getD j none).map (j,·)
theorem F7{mask:Nat}{hs:List Int}{owner:Array (Option Nat)}{ss:List Nat}(L:Laid mask hs owner ss){j k:Nat}:(j,k)∈cY mask owner↔ss[k]? =some j:=by
 unfold cY;rw [List.mem_filterMap]
 have dflt:∀s,s≤mask→owner.getD s none=owner.getD s (some 0):=λs hs=>by
  rw [Cj,Cj,su (by rw [L.size];omega)];rfl
 constructor
 ·rintro ⟨s,dX,e⟩
  have dX:=bH.mp dX;rw [dflt s (by omega)] at e
  cases o:owner.getD s (some 0) with
  |none=>rw [o] at e;cases e
  |some k'=>
   rw [o] at e;have e:=Option.some.inj e;have e1:s=j:=(Prod.mk.inj e).1;have e2:k'=k:=(Prod.mk.inj e).2;rw [←e1,←e2];exact (L.get s (by omega) k').mp o
 ·intro e
  have hj:=L.le j (gd e);refine ⟨j,bH.mpr (by omega),?_⟩
  rw [dflt j hj,(L.get j hj k).mpr e];rfl
theorem Dj(mask:Nat)(owner:Array (Option Nat)):((cY mask owner).map (·.1)).Pairwise (·<·):=by
 unfold cY;rw [kS,List.pairwise_filterMap];refine List.pairwise_lt_range.imp λ {a b} h x hx y hy=>?_;cases oa:owner.getD a none with
 |none=>rw [oa] at hx;cases hx
 |some ka=>
  cases ob:owner.getD b none with
  |none=>rw [ob] at hy;cases hy
  |some kb=>
   rw [oa] at hx;rw [ob] at hy;cases (Option.some.inj hx);cases (Option.some.inj hy);exact h
theorem Ir{mask:Nat}(f:tI mask)(hs:List Int)(room:hs.length≤mask)(finger moves:Nat)(led plain:Bool):
  ∃t order,laid mask finger moves led plain hs.toArray=some (t,order)∧t.mask=mask∧t.led=led∧t.plain=plain∧t.moves=moves∧order.toList.Perm (List.range hs.length)∧TOk t (order.toList.map λk=>hs.getD k 0):=by
 obtain ⟨owner,ss,e,L⟩:=zo f hs (by omega)
 have lm:=λ {j k:Nat}=>F7 (j:=j) (k:=k) L;have ri:=Dj mask owner
 have sP:((cY mask owner).map (·.2)).Nodup:=by
  rw [Fu,kS];rw [kS] at ri;refine ri.imp_of_mem λ {a b} ha hb Bi z=>?_;obtain ⟨aj,ak⟩:=a;obtain ⟨bj,bk⟩:=b;have h1:=lm.mp ha;have h2:=lm.mp hb;have z:ak=bk:=z;rw [z,h2] at h1
  have:=Option.some.inj h1
  have Bi:aj<bj:=Bi;omega
 have perm:((cY mask owner).map (·.2)).Perm (List.range hs.length):=by
  refine (vz sP kF).mpr λk=>?_;rw [fg,bH]
  constructor
  ·rintro ⟨⟨j,k'⟩,h,rfl⟩
   have:=(eO.mp (lm.mp h)).1
   rw [L.len] at this;exact this
  ·intro hk
   have jF:k<ss.length:=by rw [L.len];exact hk
   exact ⟨(ss[k],k),lm.mpr (bA jF),rfl⟩
 have ll:(cY mask owner).length=hs.length:=by
  have:=perm.length_eq
  simpa using this
 refine ⟨{mask,place:=((cY mask owner).map (·.1)).toArray,dummies:= #[],finger,led,moves,plain},((cY mask owner).map (·.2)).toArray,?_,rfl,rfl,rfl,rfl,by simpa using perm,?_⟩
 ·unfold laid
  rw [e];rfl
 have Je:∀(i j:Nat),((cY mask owner).map (·.1)).toArray[i]? =some j↔∃k,(cY mask owner)[i]? =some (j,k):=λi j=>by
  rw [List.getElem?_toArray,fc];cases o:(cY mask owner)[i]? with
  |none=>simp
  |some x=>
   obtain ⟨a,b⟩:=x;simp
 have iZ:∀s,s∈ss→∃i:Nat,((cY mask owner).map (·.1)).toArray[i]? =some s:=λs dX=>by
  obtain ⟨k,hk⟩:=vD dX;obtain ⟨i,hi⟩:=vD (lm.mpr hk);exact ⟨i,(Je i s).mpr ⟨k,hi⟩⟩
 refine ⟨f,rfl,?_,?_,?_,?_,?_⟩
 ·intro a b hb Bi
  have hb:b<((cY mask owner).map (·.1)).length:=by simpa using hb
  have:=Ax.mp ri a b (by omega) hb Bi
  simp [show a<(cY mask owner).length by simpa using (show a<((cY mask owner).map (·.1)).length by omega),show b<(cY mask owner).length by simpa using hb]
  simpa using this
 ·simp
 ·intro i j h
  obtain ⟨k,hk⟩:=(Je i j).mp h;exact L.le j (gd (lm.mp (gd hk)))
 ·show ((cY mask owner).map (·.1)).toArray.size≤mask
  simp [ll];exact room
 ·intro i h' hi
  rw [fc] at hi;cases o:(cY mask owner)[i]? with
  |none=>
   have:(((cY mask owner).map (·.2)).toArray.toList)[i]? =none:=by simp [o]
   rw [this] at hi;cases hi
  |some x=>
   obtain ⟨j,k⟩:=x;have e1:(((cY mask owner).map (·.2)).toArray.toList)[i]? =some k:=by simp [o]
   rw [e1] at hi;have sk:=lm.mp (gd o);have hk:k<hs.length:=by rw [←L.len];exact (eO.mp sk).1
   have eh:hs[k]? =some h':=by
    rw [←Option.some.inj hi];show _=some (hs.getD k 0);rw [aS,bA hk];rfl
   obtain ⟨c,p1,p2⟩:=L.path k h' eh;rw [sk] at p1;refine ⟨c,(Je i _).mpr ⟨k,by rw [o,Option.some.inj p1]⟩,λc' uf=>iZ _ (p2 c' uf)⟩
end PySem.SetTable
namespace PySem
open SetTable PyProof.Rows
def eC(w:World):Bool:=w.params.followText "set-order"
structure gz (bt:Bool) (o:Obj) (es:Array (Int×Value)) (ep:Nat) (t:SetTable):Prop where
 ex:o.ExactSet
 dat:o.data= .set es ep t
 tok:TOk t (es.toList.map (·.1))
 pl:t.plain=true
 ld:t.led= !bt
 few:5*es.size<3*t.mask
theorem TOk.fits{t:SetTable}{hs:List Int}(T:TOk t hs):t.fits hs.length=true:=by
 simp only [SetTable.fits,SetTable.fill,T.dum,T.size,vK,beq_iff_eq,decide_eq_true_eq,true_and]
 have:=T.room
 rw [T.size] at this;simpa using this
theorem gz.fits{w:Bool}{o:Obj}{es:Array (Int×Value)}{ep:Nat}{t:SetTable}(S:gz w o es ep t):t.fits es.size=true:=by
 have:=TOk.fits S.tok
 simpa using this
theorem FJ{mask n:Nat}(f:tI mask)(h:5*n<3*mask):n+1≤mask:=by
 rcases f with rfl|rfl|rfl|rfl<;>omega
theorem Dh{t:SetTable}{es:Array (Int×Value)}(T:TOk t (es.toList.map (·.1)))(few:5*es.size<3*t.mask)(h:Int)(x:Value):
  ∃p t',layNew t es h x=(SetTable.insertAt es p (h,x),t',false,false)∧TOk t' ((SetTable.insertAt es p (h,x)).toList.map (·.1))∧t'.mask=t.mask∧t'.plain=t.plain∧t'.led=t.led:=by
 obtain ⟨k0,_,a,b⟩:=TOk.probe T (λ_=>h+1) h 0;obtain ⟨b1,b2⟩:=b.resolve_right (λ⟨i,_,c,_⟩=>by have c:h+1=h:=c;omega)
 have fs:t.freeSlot h=some (bU t.mask h k0,false):=by
  unfold SetTable.freeSlot;rw [GC,show bB t.mask h=wj t.mask h 0 from rfl,b2];rfl
 have sz:t.place.size=es.size:=by rw [T.size];simp
 obtain ⟨p1,p2,p3⟩:=TOk.put T (h:=h) (k:=k0) b1 (λk' jF=>let ⟨i,hi,_⟩:=a k' (cw _) jF;⟨i,hi⟩) (by rw [sz];exact FJ T.few few)
 have e:(SetTable.insertAt es (below t.place (bU t.mask h k0)) (h,x)).toList.map (·.1)=(es.toList.map (·.1)).take (below t.place (bU t.mask h k0))++h::(es.toList.map (·.1)).drop (below t.place (bU t.mask h k0)):=by
  rw [SetTable.toList_insertAt];simp
 rw [←e] at p3;refine ⟨below t.place (bU t.mask h k0),(t.put (bU t.mask h k0)).1,?_,p3,rfl,rfl,rfl⟩
 have ft:(t.put (bU t.mask h k0)).1.fits (SetTable.insertAt es (below t.place (bU t.mask h k0)) (h,x)).size=true:=by
  have:=TOk.fits p3
  rw [aK,dA] at this;exact this
 unfold layNew;rw [fs];show (SetTable.insertAt es (t.put (bU t.mask h k0)).2 (h,x),(t.put (bU t.mask h k0)).1.orStandIn (SetTable.insertAt es (t.put (bU t.mask h k0)).2 (h,x)).size,false,!(t.put (bU t.mask h k0)).1.fits (SetTable.insertAt es (t.put (bU t.mask h k0)).2 (h,x)).size)=_;rw [p1];unfold SetTable.orStandIn;rw [if_pos ft,ft];rfl
theorem CN{mask n:Nat}(f:tI mask)(h1:3*mask≤5*n)(h2:5*(n-1)<3*mask)(h3:n≤306):tI (sizeAbove (grown n)-1)∧5*n<3*(sizeAbove (grown n)-1)∧n≤sizeAbove (grown n)-1∧sizeAbove (grown n)≤512:=by
 rcases f with rfl|rfl|rfl|rfl
 ·have:n=5:=by omega
  subst this;exact ⟨.inr (.inl rfl),by decide,by decide,by decide⟩
 ·have:n=19:=by omega
  subst this;exact ⟨.inr (.inr (.inl rfl)),by decide,by decide,by decide⟩
 ·have:n=77:=by omega
  subst this;exact ⟨.inr (.inr (.inr rfl)),by decide,by decide,by decide⟩
 ·omega
theorem DX{t:SetTable}{es:Array (Int×Value)}(T:TOk t (es.toList.map (·.1)))(full:t.tooFull=true)(near:5*(es.size-1)<3*t.mask)(small:es.size≤306):
  ∃t' order,t.relaid (es.map (·.1)) (grown es.size)=some (t',order)∧order.toList.Perm (List.range es.size)∧(order.filterMap (es[·]?)).toList.Perm es.toList∧(order.filterMap (es[·]?)).size=es.size∧
   TOk t' ((order.filterMap (es[·]?)).toList.map (·.1))∧t'.plain=t.plain∧t'.led=t.led∧5*es.size<3*t'.mask∧sizeAbove (grown es.size)≤512:=by
 have sz:t.place.size=es.size:=by rw [T.size];simp
 have f1:3*t.mask≤5*es.size:=by
  unfold SetTable.tooFull SetTable.fill at full;rw [T.dum,sz] at full;simp at full;omega
 obtain ⟨g1,g2,g3,g4⟩:=CN T.few f1 near small;obtain ⟨t',order,e,em,el,ep,_,pm,tk⟩:=Ir g1 (es.toList.map (·.1)) (by simpa using g3) t.finger (t.movedTo (sizeAbove (grown es.size)-1)) t.led t.plain
 rw [aK,dA] at pm
 have pf:(order.filterMap (es[·]?)).toList.Perm es.toList:=by
  rw [Array.toList_filterMap];exact (pm.filterMap _).trans (by rw [filterMap_getElem?_range])
 have sf:(order.filterMap (es[·]?)).size=es.size:=by rw [←dA,pf.length_eq,dA]
 refine ⟨t',order,?_,pm,pf,sf,?_,ep,el,by rw [em];exact g2,g4⟩
 ·unfold SetTable.relaid
  rw [show es.map (·.1)=(es.toList.map (·.1)).toArray by apply Array.toList_inj.mp;simp]
  exact e
 ·have:(order.filterMap (es[·]?)).toList.map (·.1)=order.toList.map λk=>(es.toList.map (·.1)).getD k 0:=by
   rw [Array.toList_filterMap];have lt:∀k∈order.toList,k<es.size:=λk hk=>bH.mp (pm.mem_iff.mp hk);generalize order.toList=l at lt
   induction l with
   |nil=>rfl
   |cons k l ih=>
    have hk:=lt k (cB ..);rw [List.filterMap_cons_some (b:=es[k]) (by simp [hk]),iV,iV,ih λj hj=>lt j (cI _ hj)]
    simp [hk]
  rw [this];exact tk
theorem zK{t:SetTable}{es:Array (Int×Value)}(T:TOk t (es.toList.map (·.1)))(full:t.tooFull=true)(near:5*(es.size-1)<3*t.mask)(small:es.size≤306):
  ∃jn t',relayAll t es (grown es.size)=(jn,t',false)∧jn.toList.Perm es.toList∧TOk t' (jn.toList.map (·.1))∧t'.plain=t.plain∧t'.led=t.led∧5*es.size<3*t'.mask:=by
 obtain ⟨t',order,e,pm,pf,sf,tk,h1,h2,h3,_⟩:=DX T full near small;refine ⟨_,t',?_,pf,tk,h1,h2,h3⟩;unfold relayAll;rw [e];dsimp only;have c:coversAll order es.size=true:=List.isPerm_iff.mpr pm
 have ft:t'.fits (order.filterMap (es[·]?)).size=true:=by
  have:=TOk.fits tk
  rw [aK,dA] at this;exact this
 rw [c,ft];rfl
end PySem
set_option maxHeartbeats 1000000
namespace PySem
open SetTable PyProof.Rows
section
variable {prog:Program} {w:World} {A:Around} {E:Value→Shared→Prop} {s:Shared}
theorem r6{h:Heap}{a:Addr}{o:Obj}{es:Array (Int×Value)}{ep:Nat}{t:SetTable}(ho:h.get? a=some o)(hd:o.data= .set es ep t)(jn:Array (Int×Value))(t':SetTable):
  (h.update a (Obj.putSet jn t')).get? a=some {o with data:= .set jn (ep+1) t'}:=by
 have:=Heap.get?_update_self (Obj.putSet jn t') ho (by rw [putSet_of jn t' hd];rfl)
 rw [putSet_of jn t' hd] at this;exact this
theorem Ao{a:Addr}{o:Obj}{es:Array (Int×Value)}{ep:Nat}{t:SetTable}{k:Int}{x:Value}{Q:Bool→Shared→Prop}(ho:s.heap.get? a=some o)(S:gz (eC w) o es ep t)(RV:ElemsOf (intKind prog w) es.toList)
  (EM:(intKind prog w).is k x=true) (room:es.size≤305)
  (hm:(∃e∈es.toList,(intKind prog w).is k e.2=true)→Q false s)
  (hn:¬(∃e∈es.toList,(intKind prog w).is k e.2=true)→∀h' o' jn CH t',Heap.SameBut a s.heap h'→h'.get? a=some o'→gz (eC w) o' jn CH t'→jn.toList.Perm (es.toList++ [((intKind prog w).hash k,x)])→Q true {s with heap:=h'}):
  wpAny (model prog w) A (setAddHashed a x ((intKind prog w).hash k)) Q E s:=by
 have hd:=S.dat;have hf:=S.fits;obtain ⟨tk,rfl⟩:=Value.isInt_shape EM;have Sm:(Value.int k tk).scannable=true:=rfl;have hb:es.size<scanBound:=by show es.size<4096;omega
 unfold setAddHashed setAddHashedIn;refine wpAny_holding (wpAny_bind (wpAny_setState_of ho hd hf ?_));dsimp only;rw [byScan_of Sm hb RV];simp only [↓reduceIte];unfold setAddByScan;refine wpAny_bind ?_;refine wpAny_bind (wpAny_rule ?_);refine wpAny_bind (wpAny_setScan_of EM ho hd hf RV ?_);cases hr:List.findIdx? (λe=>(intKind prog w).is k e.2) es.toList with
 |some j=>
  dsimp only;obtain ⟨hj,X0,_⟩:=List.findIdx?_eq_some_iff_getElem.mp hr;exact wpAny_pure (wpAny_pure (hm ⟨es.toList[j],qA hj,X0⟩))
 |none=>
  dsimp only
  have nm:¬∃e∈es.toList,(intKind prog w).is k e.2=true:=by
   rintro ⟨e,he,hp⟩
   have:=List.findIdx?_eq_none_iff.mp hr e he
   rw [hp] at this;exact Bool.noConfusion this
  obtain ⟨p,t1,eL,T1,m1,p1,l1⟩:=Dh S.tok S.few ((intKind prog w).hash k) (.int k tk);rw [eL];dsimp only;refine wpAny_bind (wpAny_pure ?_);rw [show t1.plain=true by rw [p1];exact S.pl]
  simp only [↓reduceIte];refine wpAny_bind ?_;rw [hashByValue_scannable 8 Sm];refine wpAny_pure ?_;simp only [plainKind, ↓reduceIte];have nH:(SetTable.insertAt es p ((intKind prog w).hash k,Value.int k tk)).size=es.size+1:=SetTable.fU ..;have Ji:=SetTable.insertAt_perm es p ((intKind prog w).hash k,Value.int k tk);rw [vI] at Ji;refine wpAny_bind (wpAny_storeSet_of ho hd ?_ (by rw [nH];refine fits_of_scanBound ?_;show es.size+1<4096;omega))
  have lh:=r6 ho hd (SetTable.insertAt es p ((intKind prog w).hash k,Value.int k tk)) t1;have UU:=Heap.SameBut.update s.heap a (Obj.putSet (SetTable.insertAt es p ((intKind prog w).hash k,Value.int k tk)) t1)
  by_cases full:t1.tooFull=true
  ·rw [full]
   simp only [Bool.not_false,Bool.and_true, ↓reduceIte];obtain ⟨HI,t2,eR,wd,T2,p2,l2,f2⟩:=zK T1 full (by rw [nH,m1];have:=S.few;omega) (by rw [nH];omega)
   rw [eR];dsimp only;have Vk:HI.size=es.size+1:=by rw [←dA,wd.length_eq,dA,nH]
   refine wpAny_bind (wpAny_pure ?_);refine wpAny_bind (wpAny_storeSet_of lh rfl ?_ (by rw [Vk];refine fits_of_scanBound ?_;show es.size+1<4096;omega))
   have Bo:=r6 lh rfl HI t2;refine wpAny_pure (wpAny_pure (hn nm _ _ HI _ t2 (UU.trans (Heap.SameBut.update _ a _)) Bo ⟨S.ex,rfl,T2,by rw [p2,p1];exact S.pl,by rw [l2,l1];exact S.ld,by rw [Vk];rw [nH] at f2;exact f2⟩ (wd.trans Ji)))
  ·have ff:t1.tooFull=false:=by simpa using full
   rw [ff];simp only [Bool.not_false,Bool.and_false,kQ, ↓reduceIte];refine wpAny_pure (wpAny_pure (hn nm _ _ _ _ t1 UU lh ⟨S.ex,rfl,T1,by rw [p1];exact S.pl,by rw [l1];exact S.ld,?_⟩ Ji))
   unfold SetTable.tooFull SetTable.fill at ff;rw [T1.dum,T1.size] at ff;simp at ff;omega
theorem tT{Q₁:Value→Shared→Prop}
  (h:Q₁ (.ref s.heap.objs.size) {s with heap:=s.heap.push {cls:= .type "set",dict:=none,data:= .set #[] 0 (.fresh 0 0 (!eC w))}}):
  codeAny (model prog w) A (.call (.builtin "set.__new__") ⟨[.type "set"],[]⟩) (wants Q₁ E) s:=by
 refine codeAny_of_tree ?_;show wpAny _ A.in1 (do checkBuiltinCall "set.__new__" ⟨[.type "set"],[]⟩;again (.builtin "set.__new__" ⟨[.type "set"],[]⟩)) _ _ s
 refine wpAny_bind (wpAny_of_eq F.newCall_set_0 (wpAny_pure ⟨plainId_quiet F.plain_set_new _,codeAny_builtin F.entry_set_new ?_⟩));rw [Around.under_plainId F.plain_set_new _];unfold Builtin.«set.__new__» Builtin.Frozenset.newClass;have Sn:=sub_set_self;obtain ⟨hp,g,d,tk,os⟩:=s;dsimp only
 wp_walk
 refine wpAny_askSetting (wpAny_pure ?_);dsimp only;simp only [newObj];refine wpAny_bind (wpAny_alloc (wpAny_pure ?_));exact wpAny_pure h
theorem yN{Q:Value→Shared→Prop}
  (h:Q (.ref s.heap.objs.size) {s with heap:=s.heap.push {cls:= .type "set",dict:=none,data:= .set #[] 0 (.fresh 0 0 (!eC w))}}):
  wpAny (model prog w) A (call (.type "set") []) Q E s:=by
 obtain ⟨c,tl,aag⟩:=F.called_set.mro;have XQ:=F.called_set.made;have Sn:=F.called_set.sub;refine wpAny_call (codeAny_of_tree ?_);show wpAny _ _ (callAny (.type "set") _) _ _ _;refine wpAny_pure ⟨Code.quiet_builtin _ (by decide+kernel),codeAny_builtin F.entry_type_call ?_⟩
 rw [Around.under_plain (weight_type_call_type "set" [] []) rfl];have h1:=F.called_set.notType;have h2:=F.called_set.canCreate;have hct:=F.typeCall_set_0
 repeat (any_goals (first|assumption|wp_step))
 refine codeAny_mono (tT (E:=E) (Q₁:=λobj s₁=>obj= .ref s.heap.objs.size∧s₁={s with heap:=s.heap.push {cls:= .type "set",dict:=none,data:= .set #[] 0 (.fresh 0 0 (!eC w))}}) ⟨rfl,rfl⟩) λr s₁ hr=>?_
 cases r with
 |error e=>exact hr
 |ok fl=>
  cases fl with
  |ret obj=>
   obtain ⟨rfl,rfl⟩:=hr;have hS:(s.heap.push {cls:= .type "set",dict:=none,data:= .set #[] 0 (.fresh 0 0 (!eC w))}).get? s.heap.objs.size=some {cls:= .type "set",dict:=none,data:= .set #[] 0 (.fresh 0 0 (!eC w))}:=Heap.get?_push_size _ rfl;have hT:Shared.TypeIs {s with heap:=s.heap.push {cls:= .type "set",dict:=none,data:= .set #[] 0 (.fresh 0 0 (!eC w))}} (.ref s.heap.objs.size) "set":=⟨_,hS,rfl⟩
   have hli:=F.called_set.init.lookup;have hbi:=F.called_set.init.bind (.ref s.heap.objs.size)
   repeat (any_goals (first|assumption|wp_step))
   refine codeAny_mono (codeAny_call_builtin (R:=wants (λr Fp=>r= .none∧Q (.ref s.heap.objs.size) Fp) E) F.called_set.init.plain F.entry_set_init (check_set_init hT ?_)) λUQ Fp C4=>?_
   ·unfold Builtin.«set.__init__» noKeywords
    wp_walk
    exact ⟨rfl,h⟩
   ·cases UQ with
    |error e=>exact C4
    |ok NX=>
     cases NX with
     |ret r=>
      obtain ⟨rfl,hq⟩:=C4
      repeat (any_goals (first|assumption|wp_step))
     |_=>exact C4.elim
  |_=>exact hr.elim
theorem gz.new(w:World):gz (eC w) {cls:= .type "set",dict:=none,data:= .set #[] 0 (.fresh 0 0 (!eC w))} #[] 0 (.fresh 0 0 (!eC w)) where
 ex:=⟨rfl,rfl,rfl⟩
 dat:=rfl
 tok:=⟨.inl rfl,rfl,λi j hj=>by simp [SetTable.fresh] at hj,rfl,λi j h=>by simp [SetTable.fresh] at h,by simp [SetTable.fresh],λi h e=>by simp at e⟩
 pl:=rfl
 ld:=rfl
 few:=by simp [SetTable.fresh]
end
namespace F
theorem sN:entryFor table "set.__iter__"=some Builtin.«frozenset.__iter__»:=
 entryFor_alias (id':="frozenset.__iter__") (by kernel_rfl) rfl (by decide+kernel) (by kernel_rfl)
theorem g8:Manifest.owners.lookup (String.ofList ['r','o','t','a','r','e','t','i','_','t','e','s'].reverse)=some Manifest.sig_set_iterator:=by kernel_rfl
theorem bz:Slot "set_iterator" "__next__" "set_iterator.__next__":=
 .of (owner:="set_iterator") (n:="__next__") (by rw [typeLookup_type,builtinLookup_eq_fast];kernel_rfl) (by decide+kernel) (by decide+kernel) (by decide+kernel)
  (by first|exact .inl (by decide+kernel) |exact .inr (by decide+kernel)) (by rw [isSubtype_type];kernel_rfl)
theorem fo:entryFor table "set_iterator.__next__"=some Builtin.«set_iterator.__next__»:=entryFor_of_tree (by kernel_rfl)
theorem e9(a:Value):argsOk "set_iterator.__next__" ⟨[a],[]⟩:=by
 unfold argsOk;rw [signature?_of (id:="set_iterator.__next__") (n:= ['_','_','t','x','e','n','_','_']) (o:= ['r','o','t','a','r','e','t','i','_','t','e','s']) (by kernel_rfl) g8];kernel_rfl
theorem fH:Slot "set_iterator" "__iter__" "set_iterator.__iter__":=
 .of (owner:="set_iterator") (n:="__iter__") (by rw [typeLookup_type,builtinLookup_eq_fast];kernel_rfl) (by decide+kernel) (by decide+kernel) (by decide+kernel)
  (by first|exact .inl (by decide+kernel) |exact .inr (by decide+kernel)) (by rw [isSubtype_type];kernel_rfl)
theorem jk:entryFor table "set_iterator.__iter__"=some Builtin.«dict_keyiterator.__iter__»:=
 entryFor_alias (id':="dict_keyiterator.__iter__") (by kernel_rfl) rfl (by decide+kernel) (by kernel_rfl)
theorem iW(a:Value):argsOk "set_iterator.__iter__" ⟨[a],[]⟩:=by
 unfold argsOk;rw [signature?_of (id:="set_iterator.__iter__") (n:= ['_','_','r','e','t','i','_','_']) (o:= ['r','o','t','a','r','e','t','i','_','t','e','s']) (by kernel_rfl) g8];kernel_rfl
end F
theorem rV{α:Type}:∀(l:List α)(i:Nat)(h:i<l.length),(l[i]::l.eraseIdx i).Perm l
 |y::l,0,_=> .refl _
 |y::l,i+1,h=>by
  have:=rV l i (by simpa using h)
  simp only [List.getElem_cons_succ,List.eraseIdx_cons_succ];exact (List.Perm.swap ..).trans (this.cons y)
theorem BM{α:Type}(next:Nat→Nat):∀(fuel k:Nat)(left:List α)(out:Array α),left.length≤fuel→(pickOrder.go next fuel k left out).toList.Perm (out.toList++left)
 |0,k,left,out,h=>by
  have:left= []:=Cm.mp (by omega)
  subst this;simp [pickOrder.go]
 |fuel+1,k,[],out,h=>by
  simp [pickOrder.go]
 |fuel+1,k,y::left,out,h=>by
  have lt:next k%(y::left).length<(y::left).length:=og _ (by simp)
  unfold pickOrder.go;rw [bA lt];dsimp only;refine (BM next fuel (k+1) _ _ (by rw [List.length_eraseIdx_of_lt lt];simp at h ⊢;omega)).trans ?_
  rw [vI,kR];refine List.Perm.append_left _ ?_;exact rV _ _ lt
def eN(w:World)(a:Addr)(ep:Nat)(es:Array (Int×Value)):Array (Int×Value):=if eC w=true then pickOrder (w.params.setOrder a ep) es else es
theorem uM(w:World)(a:Addr)(ep:Nat)(es:Array (Int×Value)):(eN w a ep es).toList.Perm es.toList:=by
 unfold eN
 split
 ·unfold pickOrder
  simpa using BM (w.params.setOrder a ep) es.size 0 es.toList #[] (by simp)
 ·exact .refl _
theorem iM(w:World)(a:Addr)(ep:Nat)(es:Array (Int×Value)):(eN w a ep es).size=es.size:=by
 rw [←dA,(uM w a ep es).length_eq,dA]
def cZ(w:World)(t:SetTable)(i:Nat):Nat:=if eC w=true then 0 else if i=0 then 0 else t.place[i-1]! +1
section
variable {prog:Program} {w:World} {A:Around} {E:Value→Shared→Prop} {s:Shared}
theorem AR{t:SetTable}{hs:List Int}(T:TOk t hs)(hb:eC w=false){i:Nat}(hi:i≤hs.length):below t.place (cZ w t i)=i:=by
 have sz:=T.size;obtain ⟨b1,b2,b3⟩:=gE T.rise (cZ w t i);unfold cZ at*;rw [if_neg (by rw [hb];exact cN)] at*
 by_cases z:i=0
 ·rw [if_pos z] at*
  rcases Nat.eq_zero_or_pos (below t.place 0) with h|h
  ·rw [h,z]
  ·exact absurd (b2 0 h) (Nat.not_lt_zero _)
 ·rw [if_neg z] at*
  generalize below t.place (t.place[i-1]! +1)=b at*
  rcases Nat.lt_trichotomy b i with h|h|h
  ·have:=b3 (i-1) (by omega) (by omega)
   omega
  ·exact h
  ·have:=b2 i h
   have:=T.rise (i-1) i (by omega) (by omega)
   omega
theorem jX{a:Addr}{o:Obj}{es:Array (Int×Value)}{ep:Nat}{t:SetTable}{i:Nat}{Q:Option (Value×Nat)→Shared→Prop}(ho:s.heap.get? a=some o)(S:gz (eC w) o es ep t)(hi:i≤es.size)
  (h:Q (((eN w a ep es)[i]?).map λe=>(e.2,cZ w t (i+1))) s):wpAny (model prog w) A (setNext a (cZ w t i) i ep) Q E s:=by
 have hd:=S.dat;have hf:=S.fits;unfold setNext;refine wpAny_bind (wpAny_setState_of ho hd hf ?_);dsimp only;unfold setsByText;refine wpAny_bind (wpAny_bind (wpAny_askSetting (wpAny_pure ?_)));cases hb:eC w with
 |true=>
  refine wpAny_ite_true (decide_eq_true (show w.params.followText "set-order"=true from hb)) ?_;rw [if_neg (by simp)]
  unfold setWalk setsByText;refine wpAny_bind (wpAny_bind (wpAny_setState_of ho hd hf ?_));dsimp only;refine wpAny_bind (wpAny_bind (wpAny_askSetting (wpAny_pure ?_)));refine wpAny_ite_true (decide_eq_true (show w.params.followText "set-order"=true from hb)) ?_;refine wpAny_bind (wpAny_askSetting (wpAny_pure (wpAny_pure ?_)));unfold eN cZ at h;rw [if_pos hb,if_pos hb] at h;unfold cZ;rw [if_pos hb];exact h
 |false=>
  refine wpAny_ite_false (decide_eq_false (show ¬w.params.followText "set-order"=true from by rw [show w.params.followText "set-order"=false from hb];exact cN)) ?_
  refine wpAny_ite_false ?_ ?_
  ·refine decide_eq_false ?_
   show ¬((!t.plain&&decide (es.size>1))=true);rw [S.pl];simp
  refine wpAny_bind ?_;show wpAny _ _ (if (!t.led&& !es.isEmpty)=true then _ else _) _ _ _;rw [if_neg (by rw [S.ld,hb];simp)]
  refine wpAny_pure ?_;have bn:=AR (w:=w) S.tok hb (i:=i) (by simpa using hi)
  rw [bn];refine wpAny_pure ?_;have sz:t.place.size=es.size:=by rw [S.tok.size];simp
  unfold eN at h;rw [if_neg (by rw [hb];exact cN)] at h
  by_cases lt:i<es.size
  ·have lp:i<t.place.size:=by omega
   rw [su lt] at h ⊢;rw [su lp];dsimp only
   have e:cZ w t (i+1)=t.place[i]+1:=by
    unfold cZ;rw [if_neg (by rw [hb];exact cN),if_neg (by omega)]
    simp [lp]
   rw [Option.map_some,e] at h;exact h
  ·rw [AA (by omega)] at h ⊢
   exact h
end
def gk(w:World)(h:Heap)(I a:Addr)(t:SetTable)(i n ep:Nat):Prop:=
 ∃o,h.get? I=some o∧o.cls= .type "set_iterator"∧o.data= .fields #[.int (cZ w t i:Nat) 0, .int i 0, .ref a, .int n 0, .int ep 0]
section
variable {prog:Program} {w:World} {A:Around} {E:Value→Shared→Prop} {s:Shared}
theorem gk.typeIs{I a:Addr}{t:SetTable}{i n ep:Nat}(x:gk w s.heap I a t i n ep):s.TypeIs (.ref I) "set_iterator":=let ⟨o,ho,hc,_⟩:=x;⟨o,ho,hc⟩
theorem qr{a:Addr}{o:Obj}{es:Array (Int×Value)}{ep:Nat}{t:SetTable}{Q:Value→Shared→Prop}(ho:s.heap.get? a=some o)(S:gz (eC w) o es ep t)
  (hQ:Q (.ref s.heap.objs.size) {s with heap:=s.heap.push {cls:= .type "set_iterator",data:= .fields #[.int (cZ w t 0:Nat) 0, .int (0:Nat) 0, .ref a, .int es.size 0, .int ep 0]}}):
  wpAny (model prog w) A (pyIter (.ref a)) Q E s:=by
 have hd:=S.dat;have hf:=S.fits;have hT:s.TypeIs (.ref a) "set":=⟨o,ho,S.ex.1⟩;refine wpAny_pyIter_slot hT F.slot_set_iter (wpAny_call_entry F.slot_set_iter hT F.sN ?_ (F.args_set_iter_1 _));unfold Builtin.«frozenset.__iter__» Builtin.Frozenset.slot0 slotArgs;simp only [List.isEmpty_nil,Bool.not_true,kQ, ↓reduceIte,bind_assoc,qB,bne_self_eq_false];unfold Builtin.Frozenset.addrOf Builtin.Frozenset.sizeOf;refine wpAny_bind (wpAny_pure ?_)
 try dsimp only
 refine wpAny_bind (wpAny_pure ?_);refine wpAny_bind (wpAny_bind (wpAny_setEntries_of ho hd hf (wpAny_pure ?_)));unfold setDrawn setsByText;refine wpAny_bind (wpAny_bind (wpAny_setState_of ho hd hf ?_));dsimp only;refine wpAny_bind (wpAny_bind (wpAny_askSetting (wpAny_pure ?_)));refine wpAny_pure ?_;refine wpAny_ite_false ?_ ?_
 ·refine decide_eq_false ?_
  show ¬((!w.params.followText "set-order"&&(!t.plain&&decide (es.size>1)))=true);rw [S.pl];simp
 refine wpAny_bind (wpAny_pure ?_);refine wpAny_bind ?_;unfold setEpoch;refine wpAny_bind (wpAny_setState_of ho hd hf (wpAny_pure ?_));refine wpAny_bind (wpAny_newObj_type (wpAny_pure ⟨_,rfl,"set_iterator",_,⟨_,Heap.get?_push_size _ rfl,rfl⟩,F.bz.lookup,?_⟩));have e:cZ w t 0=0:=by unfold cZ;simp
 rw [e] at hQ;exact hQ
theorem qs{I a:Addr}{o:Obj}{es:Array (Int×Value)}{ep:Nat}{t:SetTable}{i:Nat}{x:Int×Value}{Q:Option Value→Shared→Prop}(hit:gk w s.heap I a t i es.size ep)(ho:s.heap.get? a=some o)(S:gz (eC w) o es ep t)
  (hx:(eN w a ep es)[i]? =some x) (hQ:∀h',gk w h' I a t (i+1) es.size ep→Heap.SameBut I s.heap h'→Q (some x.2) {s with heap:=h'}):wpAny (model prog w) A (pyNext (.ref I)) Q E s:=by
 obtain ⟨oi,FX,hc,hd⟩:=id hit
 have hi:i<es.size:=by
  have:=(Ck.mp hx).1
  rwa [iM] at this
 unfold pyNext
 refine wpAny_bind (wpAny_attempt (wpAny_callSpecial?_slot (name:=Str.ofString "__next__") hit.typeIs F.bz
  (wpAny_call_entry F.bz hit.typeIs F.fo ?_ (F.e9 _))))
 unfold Builtin.«set_iterator.__next__»;refine wpAny_bind (m:=slotArgs "__next__" 0 _) (wpAny_pure ?_);refine wpAny_bind (wpAny_fieldsOf FX hd ?_);dsimp only;refine wpAny_bind (wpAny_setEntries_of ho S.dat S.fits ?_);rw [if_neg (by simp)]
 refine wpAny_bind ?_;rw [vJ,vJ,vJ];refine jX ho S (mK hi) ?_;rw [hx];dsimp only [Option.map_some];refine wpAny_bind (wpAny_setField FX hd (by simp) ?_)
 have lh:=Heap.get?_update_self (Obj.mapFields (·.setIfInBounds 0 (rawInt (cZ w t (i+1):Nat)))) FX (Obj.isFreed_of_fields (Obj.data_mapFields hd _));have Oj:=Obj.data_mapFields hd (·.setIfInBounds 0 (rawInt (cZ w t (i+1):Nat)));refine wpAny_bind (wpAny_setField lh Oj (by simp) ?_)
 have Bo:=Heap.get?_update_self (Obj.mapFields (·.setIfInBounds 1 (rawInt ((i:Int)+1)))) lh (Obj.isFreed_of_fields (Obj.data_mapFields Oj _));refine wpAny_pure ⟨_,rfl,wpAny_pure (hQ _ ⟨_,Bo,?_,?_⟩ ((Heap.SameBut.update ..).trans (Heap.SameBut.update ..)))⟩
 ·exact (Obj.cls_mapFields ..).trans ((Obj.cls_mapFields ..).trans hc)
 ·rw [Obj.data_mapFields Oj];simp [rawInt]
theorem lu{I a:Addr}{o:Obj}{es:Array (Int×Value)}{ep:Nat}{t:SetTable}{Q:Option Value→Shared→Prop}(hh:A.handled=none)(hit:gk w s.heap I a t es.size es.size ep)(ho:s.heap.get? a=some o)(S:gz (eC w) o es ep t)
  (hQ:∀h',Heap.ExtBut I s.heap h'→Q none {s with heap:=h'}):wpAny (model prog w) A (pyNext (.ref I)) Q E s:=by
 obtain ⟨oi,FX,hc,hd⟩:=id hit;unfold pyNext
 refine wpAny_bind (wpAny_attempt (wpAny_callSpecial?_slot (name:=Str.ofString "__next__") hit.typeIs F.bz
  (wpAny_call_entry F.bz hit.typeIs F.fo ?_ (F.e9 _))))
 unfold Builtin.«set_iterator.__next__»;refine wpAny_bind (m:=slotArgs "__next__" 0 _) (wpAny_pure ?_);refine wpAny_bind (wpAny_fieldsOf FX hd ?_);dsimp only;refine wpAny_bind (wpAny_setEntries_of ho S.dat S.fits ?_);rw [if_neg (by simp)]
 refine wpAny_bind ?_;rw [vJ,vJ,vJ];refine jX ho S (bx _) ?_;rw [AA (by rw [iM];exact bx _)]
 dsimp only [Option.map_none];refine wpAny_bind (wpAny_setField FX hd (by simp) ?_)
 show wpAny _ _ (newExc (.type "StopIteration") []>>=_) _ _ _;refine wpAny_bind ?_;simp only [newExc,newTuple];refine wpAny_bind (wpAny_newObj_type ?_ (by size_fits))
 refine wpAny_bind (m:=firstArgMember _ _) (wpAny_of_eq (a:=Value.none) (by first|rfl| (simp only [firstArgMember];rfl)) ?_)
 refine wpAny_newObj_type ?_ (by size_fits)
 simp only [raiseNew];refine wpAny_bind (wpAny_handled ?_);rw [show A.in1.handled=none from hh];refine wpAny_bind (wpAny_pure (wpAny_throw ?_));refine wpAny_bind (wpAny_isInstance (T:="StopIteration") (b:=true) ⟨_,Heap.get?_push_size _ rfl,rfl⟩ isSubtype_stop ?_);exact wpAny_pure (hQ _ (((Heap.SameBut.update ..).extBut.push _).push _))
theorem Walks.sets(hh:A.handled=none)(I a:Addr)(C2:a≠I){o:Obj}{es:Array (Int×Value)}{ep:Nat}{t:SetTable}(S:gz (eC w) o es ep t):
  Walks prog w A I [I,a] [I] es.size (λi v=>∃x,(eN w a ep es)[i]? =some x∧v=x.2) (λi h=>gk w h I a t i es.size ep∧h.get? a=some o) where
 sub:=λb hb=>by simp at hb;simp [hb]
 frame:=λi h h' st hk=>⟨let ⟨oi,ho,r⟩:=st.1;⟨oi,hk I (by simp) _ ho,r⟩,hk a (by simp) _ st.2⟩
 item:=λi s Q E hi st hQ=>by
  have hx:(eN w a ep es)[i]? =some ((eN w a ep es)[i]'(by rw [iM];exact hi)):=su _
  refine qs st.1 st.2 S hx λh' HY dX=>?_;exact hQ _ h' s.toks ⟨_,hx,rfl⟩ ⟨HY,(dX.2 a C2).trans st.2⟩ λb o hb e=>dX.extBut b o (λh=>hb (by simp [h])) e
 done:=λs Q E st hQ=>lu hh st.1 st.2 S λh' Om=>hQ h' s.toks λb o hb e=>Om b o (λh=>hb (by simp [h])) e
 self:=λi s Q E st hQ=>by
  refine wpAny_pyIter_slot st.1.typeIs F.fH (wpAny_call_entry F.fH st.1.typeIs F.jk ?_ (F.iW _));unfold Builtin.«dict_keyiterator.__iter__»;refine wpAny_bind (m:=slotArgs "__iter__" 0 _) (wpAny_pure ?_);exact wpAny_pure ⟨_,rfl,"set_iterator",_,st.1.typeIs,F.bz.lookup,hQ⟩
end
section
variable {prog:Program} {w:World} {A:Around} {E:Value→Shared→Prop} {s:Shared}
theorem oW{a:Addr}{o:Obj}{es:Array (Int×Value)}{ep:Nat}{t:SetTable}{Q:List Value→Shared→Prop}(hh:A.handled=none)(ho:s.heap.get? a=some o)(S:gz (eC w) o es ep t)
  (hQ:∀h' tk,s.heap.objs.size<h'.objs.size→(∀b o,s.heap.get? b=some o→h'.get? b=some o)→Q ((eN w a ep es).toList.map (·.2)) {s with heap:=h',toks:=tk}) (hn:es.size≤sizeLine:=by size_fits):
  wpAny (model prog w) A (collect (.ref a)) Q E s:=by
 have ha:a<s.heap.objs.size:=Heap.lt_size ho;unfold collect;refine wpAny_bind (wpAny_runValue (codeAny_builtin F.entry_proto_collect ?_));rw [Around.under_plainId F.plain_proto_collect _];show wpAny _ A.in1 (newList []>>=λl=>again (.builtin "list.__iadd__" ⟨[l, .ref a],[]⟩)) _ _ s;refine wpAny_bind (wpAny_newObj_type ?_);refine wpAny_pure ⟨plainId_quiet F.plain_list_iadd _,codeAny_builtin F.entry_list_iadd ?_⟩;rw [Around.under_plainId F.plain_list_iadd _];have lh:(s.heap.push {cls:= .type "list",data:= .seq ([]:List Value).toArray}).get? a=some o:=Heap.get?_push_of_some _ ho;show wpAny _ A.in1 (Builtin.List.listExtendWith (.ref s.heap.objs.size) (.ref a) (.ref s.heap.objs.size)) _ _ {s with heap:=s.heap.push {cls:= .type "list",data:= .seq ([]:List Value).toArray}}
 unfold Builtin.List.listExtendWith;have hT:Shared.TypeIs {s with heap:=s.heap.push {cls:= .type "list",data:= .seq ([]:List Value).toArray}} (.ref a) "set":=⟨o,lh,S.ex.1⟩
 refine wpAny_bind (wpAny_typeOf hT ?_);have h1:Builtin.List.listSameRef (.ref s.heap.objs.size) (.ref a)=false:=by simp [Builtin.List.listSameRef,Nat.ne_of_gt ha]
 have h2:(Value.type "set"==Value.type "list")=false:=by decide
 have h3:(Value.type "set"==Value.type "tuple")=false:=by decide
 simp only [h1,h2,h3,Bool.or_false,kQ,if_false];refine wpAny_bind (qr lh S ?_);generalize hI:(s.heap.push {cls:= .type "list",data:= .seq ([]:List Value).toArray}).objs.size=I;have N7:I=s.heap.objs.size+1:=by rw [←hI,size_push']
 have Xl:a≠I:=by rw [N7];exact bQ (yD ha)
 have Kq:s.heap.objs.size≠I:=by rw [N7];exact bQ (Nat.lt_succ_self _)
 have RM:s.heap.objs.size≠a:=Nat.ne_of_gt ha;have Oa:((s.heap.push {cls:= .type "list",data:= .seq ([]:List Value).toArray}).push {cls:= .type "set_iterator",data:= .fields #[.int (cZ w t 0:Nat) 0, .int (0:Nat) 0, .ref a, .int es.size 0, .int ep 0]}).get? s.heap.objs.size=some {cls:= .type "list",data:= .seq ([]:List Value).toArray}:=Heap.get?_push_of_some _ (Heap.get?_push_size _ rfl);have FL:((s.heap.push {cls:= .type "list",data:= .seq ([]:List Value).toArray}).push {cls:= .type "set_iterator",data:= .fields #[.int (cZ w t 0:Nat) 0, .int (0:Nat) 0, .ref a, .int es.size 0, .int ep 0]}).get? I=some {cls:= .type "set_iterator",data:= .fields #[.int (cZ w t 0:Nat) 0, .int (0:Nat) 0, .ref a, .int es.size 0, .int ep 0]}:=by rw [←hI];exact Heap.get?_push_size _ rfl
 have Od:((s.heap.push {cls:= .type "list",data:= .seq ([]:List Value).toArray}).push {cls:= .type "set_iterator",data:= .fields #[.int (cZ w t 0:Nat) 0, .int (0:Nat) 0, .ref a, .int es.size 0, .int ep 0]}).get? a=some o:=Heap.get?_push_of_some _ lh;have MN:∀b o,s.heap.get? b=some o→((s.heap.push {cls:= .type "list",data:= .seq ([]:List Value).toArray}).push {cls:= .type "set_iterator",data:= .fields #[.int (cZ w t 0:Nat) 0, .int (0:Nat) 0, .ref a, .int es.size 0, .int ep 0]}).get? b=some o:=λb o e=>Heap.get?_push_of_some _ (Heap.get?_push_of_some _ e);generalize ((s.heap.push {cls:= .type "list",data:= .seq ([]:List Value).toArray}).push {cls:= .type "set_iterator",data:= .fields #[.int (cZ w t 0:Nat) 0, .int (0:Nat) 0, .ref a, .int es.size 0, .int ep 0]})=h2 at Oa FL Od MN ⊢;have Oc:Shared.TypeIs {s with heap:=h2} (.ref a) "set":=⟨o,Od,S.ex.1⟩
 refine wpAny_bind (wpAny_holding ?_);unfold Builtin.List.listLengthHint;refine wpAny_bind (wpAny_specialOf Oc F.slot_set_len.lookup ?_)
 (generalize FR:("set.__len__":String)=KD;(fail_if_success (clear FR KD));wp_delta;rw [show splitId KD=some ("set","__len__") from by subst FR;decide+kernel];subst FR)
 refine wpAny_bind (wpAny_isInstance (b:=true) Oc sub_set_self ?_);dsimp only;refine wpAny_ite_false (by decide) ?_
 refine wpAny_ite_true (by decide+kernel) ?_
 refine wpAny_bind (wpAny_typeOf Oc ?_);refine wpAny_pure ?_;refine wpAny_ite_true (by decide+kernel) ?_
 refine wpAny_bind (wpAny_rule ?_);refine wpAny_bind ?_;show wpAny _ A.in1 (updateSeq s.heap.objs.size (·.push .none)>>=λ_=>updateSeq s.heap.objs.size (·.pop)) _ _ _;refine wpAny_bind (wpAny_updateSeq Oa rfl ?_);have y8:=Heap.get?_update_self (Obj.mapSeq (·.push Value.none)) Oa rfl;refine wpAny_updateSeq y8 rfl ?_;have Ob:=Heap.get?_update_self (Obj.mapSeq (·.pop)) y8 rfl
 have Gh:∀b o,b≠s.heap.objs.size→h2.get? b=some o→
   ((h2.update s.heap.objs.size (Obj.mapSeq (·.push Value.none))).update s.heap.objs.size (Obj.mapSeq (·.pop))).get? b=some o:=
  λb o hb e=>(Heap.get?_update_other _ _ (Ne.symm hb)).trans ((Heap.get?_update_other _ _ (Ne.symm hb)).trans e)
 have W:=(Walks.sets (prog:=prog) (A:=A.in1) hh I a Xl S).toS;have ne1:s.heap.objs.size∉ [I,a]:=by simp [Kq,RM]
 refine wpAny_pure ⟨plainId_quiet F.plain_extend_loop _,codeAny_extend_loopS W hn _ ne1 _ es.size 0 _ _ _ rfl (cw _)
  ⟨⟨_,Gh _ _ (Ne.symm Kq) FL,rfl,rfl⟩,Gh _ _ (Ne.symm RM) Od⟩ Ob (ItemsOf.nil _) λs' bV c' hm y6 pI=>?_⟩
 show wpAny _ A (load s.heap.objs.size>>=_) _ _ s';refine wpAny_bind (wpAny_load y6 ?_)
 have jn:s'={s with heap:=s'.heap,toks:=s'.toks}:=by
  obtain ⟨h8,g',d',tk',O6⟩:=s';obtain ⟨_,hg,hd,zg,_⟩:=hm;have hg:g'=s.gens:=hg;have hd:d'=s.drawn:=hd;have zg:O6=s.os:=zg;subst hg hd zg;rfl
 have ea:bV.toList=(eN w a ep es).toList.map (·.2):=by
  refine List.ext_getElem? λj=>?_;rw [f6,fc,f6];have sz:bV.size=(eN w a ep es).size:=by rw [pI.1,iM]
  by_cases lt:j<bV.size
  ·obtain ⟨x,hx,hv⟩:=pI.2 j bV[j] (su lt)
   rw [hx,su lt,hv];rfl
  ·rw [AA (by omega),AA (by omega)];rfl
 rw [jn];show wpAny _ _ (pure bV.toList) Q E _;rw [ea];refine wpAny_pure (hQ _ _ (Heap.lt_size y6) λb o e=>?_);have hb:=Heap.lt_size e;have b1:b≠s.heap.objs.size:=bQ hb;have b2:b≠I:=by rw [N7];exact bQ (yD hb)
 exact hm.heap b o (by simp [b1,b2]) (Gh b o b1 (MN b o e))
theorem um{vs us:List Value}(p:us.Perm vs):∀{ns:List Int},IntsAre vs ns→∃ms,IntsAre us ms∧ms.Perm ns:=by
 induction p with
 |nil=>intro ns h;exact ⟨ns,h, .refl _⟩
 |cons x _ ih=>
  intro ns h;cases h with
  |cons n t h=>
   obtain ⟨ms,a,b⟩:=ih h;exact ⟨n::ms, .cons n t a,b.cons n⟩
 |swap x y l=>
  intro ns h;cases h with
  |cons n t h=>
   cases h with
   |cons m u h=>exact ⟨_, .cons m u (.cons n t h), .swap ..⟩
 |trans _ _ Ya Yb=>
  intro ns h;obtain ⟨ms,a,b⟩:=Yb h;obtain ⟨ls,c,d⟩:=Ya a;exact ⟨ls,c,d.trans b⟩
theorem B4{a:Addr}{o:Obj}{es:Array (Int×Value)}{ep:Nat}{t:SetTable}{ns:List Int}{Q:Value→Shared→Prop}(hh:A.handled=none)(ho:s.heap.get? a=some o)(S:gz (eC w) o es ep t)(hI:IntsAre (es.toList.map (·.2)) ns)(Xi:es.size<64)
  (h:∀h' tk q (out:Array Value) (e:Nat) (ms:List Int),(∀b o,s.heap.get? b=some o→h'.get? b=some o)→s.heap.objs.size≤q→h'.get? q=some {cls:= .type "list",data:= .seq out e}→IntsAre out.toList ms→ms.Perm ns→ms.Pairwise (·≤·)→Q (.ref q) {s with heap:=h',toks:=tk}):
  wpAny (model prog w) A (call (.builtin "sorted") [.ref a]) Q E s:=by
 have pm:=(uM w a ep es).map (λe:Int×Value=>e.2);obtain ⟨OT,i1,i2⟩:∃OT,IntsAre ((eN w a ep es).toList.map (·.2)) OT∧OT.Perm ns:=um pm hI;have sz:((eN w a ep es).toList.map (·.2)).length=es.size:=by rw [aK,dA,iM]
 refine Calls.call_function_entry kind_sorted plain_sorted entry_sorted (args_sorted1 _) ?_;unfold Builtin.«sorted»;refine wpAny_bind (m:=checkCount "sorted" 1 1 _) (wpAny_pure ?_);have line:64≤sizeLine:=by decide
 refine wpAny_bind (oW hh ho S (λh1 PJ lj Ue=>?_) (by omega))
 refine wpAny_bind (wpAny_newList ?_ (by rw [sz];omega))
 have Bp:(h1.push (seqObj "list" ((eN w a ep es).toList.map (·.2)).toArray 0)).get? h1.objs.size=some (seqObj "list" ((eN w a ep es).toList.map (·.2)).toArray 0):=Heap.get?_push_size _ rfl;refine wpAny_bind (wpAny_holding (wpAny_call_entry slot_list_sort ⟨_,Bp,rfl⟩ entry_list_sort (list_sort_tree Bp i1 (by rw [sz];exact Xi) λout ms a1 a2 a3=>⟨_,rfl,?_⟩) (args_list_sort _)))
 obtain ⟨e1,lh⟩:∃e1,((h1.push (seqObj "list" ((eN w a ep es).toList.map (·.2)).toArray 0)).update h1.objs.size (Obj.mapSeq λ_=> #[])).get? h1.objs.size=some (seqObj "list" #[] e1):=⟨_,get?_update_seq Bp (λ_=> #[])⟩;have eD:((h1.push (seqObj "list" ((eN w a ep es).toList.map (·.2)).toArray 0)).update h1.objs.size (Obj.mapSeq λ_=> #[])).objs.size=h1.objs.size+1:=by rw [Heap.size_update,size_push']
 have C3:((((h1.push (seqObj "list" ((eN w a ep es).toList.map (·.2)).toArray 0)).update h1.objs.size (Obj.mapSeq λ_=> #[])).push (seqObj "tuple" ((eN w a ep es).toList.map (·.2)).toArray 0)).push (seqObj "list" #[] 0)).get? h1.objs.size=some (seqObj "list" #[] e1):=
  Heap.get?_push_of_some _ (Heap.get?_push_of_some _ lh)
 have RW:=get?_update_seq C3 (λ_=>out);refine wpAny_pure ⟨_,rfl,h _ _ h1.objs.size out _ ms (λb o e=>?_) (mK lj) RW a1 (a2.trans i2) a3⟩;have eb:=Ue b o e;have nb:b≠h1.objs.size:=bQ (Heap.lt_size eb);show ((((((h1.push (seqObj "list" ((eN w a ep es).toList.map (·.2)).toArray 0)).update h1.objs.size (Obj.mapSeq λ_=> #[])).push (seqObj "tuple" ((eN w a ep es).toList.map (·.2)).toArray 0)).push (seqObj "list" #[] 0)).update h1.objs.size (Obj.mapSeq λ_=>out))).get? b=some o;rw [Heap.get?_update_ne _ _ _ _ nb];refine Heap.get?_push_of_some _ (Heap.get?_push_of_some _ ?_);rw [Heap.get?_update_ne _ _ _ _ nb];exact Heap.get?_push_of_some _ eb
end
end PySem
set_option maxHeartbeats 4000000
namespace L2
open PySem PySem.Spec PyProof.Rows
inductive D where
 |bf|bl (b:Bool) |int (i:Int) |str (x:Str) |lst (l:List D) |tup (l:List D) |jW (ns:List Int) |rng (lo hi:Int) |obj (a:Addr) |eE (w:List (List Nat)) |set (b:Bool) (l:List Int)
structure DC where
 K:PySem.W.Frag
 C:Addr
def af(n:Nat):D:= .int n
def ao(r:List Nat):D:= .lst (r.map af)
def aN(w:List (List Nat)):D:= .lst (w.map ao)
def rH(es:Array (Int×Value))(ns:List Int):Prop:=(∀e∈es.toList,∃k t,e=(hashInt k,Value.int k t))∧ns.Nodup∧∃ms,IntsAre (es.toList.map (·.2)) ms∧ms.Perm ns
def e8(b:Bool)(a:Addr)(ns:List Int)(h:Heap):Prop:=∃o es ep t,h.get? a=some o∧gz b o es ep t∧rH es ns
mutual
inductive Dv (Z:DC) (H:Hp):V→D→Prop
 |bf:Dv Z H .bf .bf
 |bl (b:Bool):Dv Z H (.bl b) (.bl b)
 |int (i:Int):Dv Z H (.int i) (.int i)
 |str (x:Str) (h:PyData.strOk x=true):Dv Z H (.str x) (.str x)
 |lst {a:Addr} {xs:List V} {ds:List D}:H a=some (.lst xs)→ar Z H xs ds→Dv Z H (.ref a) (.lst ds)
 |tup {a:Addr} {xs:List V} {ds:List D}:H a=some (.tup xs)→ar Z H xs ds→Dv Z H (.ref a) (.tup ds)
 |obj (a:Addr):Dv Z H (.ref a) (.obj a)
 |rng {a:Addr} {lo hi:Int}:H a=some (.rng lo hi)→Dv Z H (.ref a) (.rng lo hi)
 |jW {a:Addr} {ns:List Int}:cp Z.K H a (ns.map V.int)→ns.length≤63→Dv Z H (.ref a) (.jW ns)
 |eE {p dx R:Addr} {w:List (List Nat)}:H p=some (.ins Z.C dx [("rows", .ref R)])→Dv Z H (.ref R) (aN w)→Wb.Good w→1≤w.length→w.length≤14→Dv Z H (.ref p) (.eE w)
 |set {a:Addr} {b:Bool} {ns:List Int}:H a=some (.ext (e8 b a ns))→Dv Z H (.ref a) (.set b ns)
inductive ar (Z:DC) (H:Hp):List V→List D→Prop
 |nil:ar Z H [] []
 |cons {v:V} {vs:List V} {d:D} {ds:List D}:Dv Z H v d→ar Z H vs ds→ar Z H (v::vs) (d::ds)
end
theorem cp.mono{K:PySem.W.Frag}{H H':Hp}{a:Addr}{xs:List V}(s:aH H H')(h:cp K H a xs):cp K H' a xs:=by
 rcases h with (h| ⟨o,h⟩) |h
 ·exact .inl (.inl (s _ _ h))
 ·exact .inl (.inr ⟨o,s _ _ h⟩)
 ·exact .inr h
section
variable {Z:DC} {H H' G G':Hp}
theorem Dv.ofInt{v:V}{i:Int}(h:Dv Z H v (.int i)):v= .int i:=by cases h;rfl
theorem Dv.iL{v:V}{ds:List D}(h:Dv Z H v (.lst ds)):∃a xs,v= .ref a∧H a=some (.lst xs)∧ar Z H xs ds:=by cases h with|lst h e=>exact ⟨_,_,rfl,h,e⟩
theorem Dv.uE{v:V}{ds:List D}(h:Dv Z H v (.tup ds)):∃a xs,v= .ref a∧H a=some (.tup xs)∧ar Z H xs ds:=by cases h with|tup h e=>exact ⟨_,_,rfl,h,e⟩
theorem Dv.IK{v:V}{ns:List Int}(h:Dv Z H v (.jW ns)):∃a,v= .ref a∧cp Z.K H a (ns.map V.int)∧ns.length≤63:=by cases h with|jW h z=>exact ⟨_,rfl,h,z⟩
theorem ar.OX{vs:List V}(h:ar Z H vs []):vs= []:=by cases h;rfl
theorem ar.EY{vs:List V}{d:D}{ds:List D}(h:ar Z H vs (d::ds)):∃v us,vs=v::us∧Dv Z H v d∧ar Z H us ds:=by cases h with|cons a b=>exact ⟨_,_,rfl,a,b⟩
theorem ar.ofOne{vs:List V}{d:D}(h:ar Z H vs [d]):∃v,vs= [v]∧Dv Z H v d:=by
 obtain ⟨v,us,rfl,a,b⟩:=h.EY;rw [b.OX];exact ⟨v,rfl,a⟩
theorem ar.OY{vs:List V}{d e:D}(h:ar Z H vs [d,e]):∃v u,vs= [v,u]∧Dv Z H v d∧Dv Z H u e:=by
 obtain ⟨v,us,rfl,a,b⟩:=h.EY;obtain ⟨u,rfl,c⟩:=b.ofOne;exact ⟨v,u,rfl,a,c⟩
mutual
theorem Dv.mono(s:aH H H'):∀{v:V}{d:D},Dv Z H v d→Dv Z H' v d
 |_,_, .bf=> .bf
 |_,_, .bl b=> .bl b
 |_,_, .int i=> .int i
 |_,_, .str x h=> .str x h
 |_,_, .lst h a=> .lst (s _ _ h) (ar.mono s a)
 |_,_, .tup h a=> .tup (s _ _ h) (ar.mono s a)
 |_,_, .obj a=> .obj a
 |_,_, .rng h=> .rng (s _ _ h)
 |_,_, .jW h z=> .jW (h.mono s) z
 |_,_, .eE h r g a b=> .eE (s _ _ h) (Dv.mono s r) g a b
 |_,_, .set h=> .set (s _ _ h)
theorem ar.mono(s:aH H H'):∀{vs:List V}{ds:List D},ar Z H vs ds→ar Z H' vs ds
 |_,_, .nil=> .nil
 |_,_, .cons a as=> .cons (Dv.mono s a) (ar.mono s as)
end
theorem ar.length:∀{vs:List V}{ds:List D},ar Z H vs ds→vs.length=ds.length
 |_,_, .nil=>rfl
 |_,_, .cons _ as=>congrArg (·+1) as.length
theorem ar.get:∀{vs:List V}{ds:List D}{i:Nat}{d:D},ar Z H vs ds→ds[i]? =some d→∃v,vs[i]? =some v∧Dv Z H v d
 |_,_,_,_, .nil,e=>by simp at e
 |_,_,0,_, .cons a as,e=>by simp at e;subst e;exact ⟨_,rfl,a⟩
 |_,_,i+1,d, .cons a as,e=>by
  obtain ⟨v,h1,h2⟩:=ar.get (i:=i) (d:=d) as (by simpa using e)
  exact ⟨v,by simpa using h1,h2⟩
theorem ar.EK:∀{vs:List V}{ds:List D}{i:Nat}{v:V},ar Z H vs ds→vs[i]? =some v→∃d,ds[i]? =some d∧Dv Z H v d
 |_,_,_,_, .nil,e=>by simp at e
 |_,_,0,_, .cons a as,e=>by simp at e;subst e;exact ⟨_,rfl,a⟩
 |_,_,i+1,d, .cons a as,e=>by
  obtain ⟨v,h1,h2⟩:=ar.EK (i:=i) (v:=d) as (by simpa using e)
  exact ⟨v,by simpa using h1,h2⟩
theorem ar.append:∀{vs us:List V}{ds es:List D},ar Z H vs ds→ar Z H us es→ar Z H (vs++us) (ds++es)
 |_,_,_,_, .nil,b=>b
 |_,_,_,_, .cons a as,b=> .cons a (as.append b)
theorem ar.take:∀{vs:List V}{ds:List D}(n:Nat),ar Z H vs ds→ar Z H (vs.take n) (ds.take n)
 |_,_,0,_=>by simpa using ar.nil
 |_,_,n+1, .nil=>by simpa using ar.nil
 |_,_,n+1, .cons a as=>by simpa using ar.cons a (as.take n)
theorem ar.drop:∀{vs:List V}{ds:List D}(n:Nat),ar Z H vs ds→ar Z H (vs.drop n) (ds.drop n)
 |_,_,0,h=>h
 |_,_,n+1, .nil=>by simpa using ar.nil
 |_,_,n+1, .cons a as=>by simpa using as.drop n
theorem ar.set{v:V}{d:D}(h:Dv Z H v d):∀{vs:List V}{ds:List D}(n:Nat),ar Z H vs ds→ar Z H (vs.set n v) (ds.set n d)
 |_,_,_, .nil=> .nil
 |_,_,0, .cons a as=> .cons h as
 |_,_,n+1, .cons a as=> .cons a (ar.set h n as)
theorem ar.rev:∀{vs:List V}{ds:List D},ar Z H vs ds→ar Z H vs.reverse ds.reverse
 |_,_, .nil=> .nil
 |_,_, .cons a as=>by
  rw [vH,vH];exact as.rev.append (.cons a .nil)
theorem ar.ints:∀(ns:List Int),ar Z H (ns.map V.int) (ns.map D.int)
 | []=> .nil
 |n::ns=> .cons (.int n) (ar.ints ns)
theorem ar.snoc{vs:List V}{ds:List D}{v:V}{d:D}(a:ar Z H vs ds)(b:Dv Z H v d):ar Z H (vs++ [v]) (ds++ [d]):=a.append (.cons b .nil)
structure Ext (G H G' H':Hp):Prop where
 gg:aH G G'
 sub:aH G' H'
 hh:aH H H'
 off:∀b,H b≠none→G b=none→G' b=none
theorem Ext.refl(s:aH G H):Ext G H G H:=⟨.refl _,s, .refl _,λ_ _ h=>h⟩
theorem Ext.trans{G1 H1 G2 H2:Hp}(a:Ext G H G1 H1)(b:Ext G1 H1 G2 H2):Ext G H G2 H2:=
 ⟨a.gg.trans b.gg,b.sub,a.hh.trans b.hh,λx h g=>b.off x (λz=>by
  cases e:H x with
  |none=>exact h e
  |some o=>rw [a.hh x o e] at z;cases z) (a.off x h g)⟩
theorem Ext.new{p:Addr}{o:HO}(s:aH G H)(h:H p=none):Ext G H (upd G p o) (upd H p o):=by
 have hg:G p=none:=s.free h;refine ⟨aQ hg o,λb u e=>?_,aQ h o,λb hb hg=>?_⟩
 ·by_cases z:b=p
  ·subst z;rw [ax] at e ⊢;exact e
  ·rw [aF z] at e ⊢;exact s b u e
 ·have:b≠p:=λz=>hb (by rw [z];exact h)
  rw [aF this];exact hg
end
abbrev DN:=List (Option D)
structure cL (Z:DC) (G:Hp) (σ:St) (ρ:DN):Prop where
 len:ρ.length=σ.length
 at_:∀(i:Nat)(d:D),ρ[i]? =some (some d)→∃v,σ[i]? =some (some v)∧Dv Z G v d
section
variable {Z:DC} {G G' H H':Hp} {σ:St} {ρ:DN}
theorem cL.mono(e:cL Z G σ ρ)(s:aH G G'):cL Z G' σ ρ:=⟨e.len,λi d h=>let ⟨v,a,b⟩:=e.at_ i d h;⟨v,a,b.mono s⟩⟩
theorem cL.set{i:Nat}{v:V}{d:D}(e:cL Z G σ ρ)(h:Dv Z G v d):cL Z G (σ.set i (some v)) (ρ.set i (some d)):=by
 refine ⟨by rw [kT,kT];exact e.len,λj c hj=>?_⟩
 by_cases z:i=j
 ·subst z
  by_cases hi:i<ρ.length
  ·rw [qw hi] at hj
   cases hj;exact ⟨v,by rw [qw (by rw [←e.len];exact hi)],h⟩
  ·rw [Ay (n9 hi)] at hj
   rw [n6 (n9 hi)] at hj;cases hj
 ·rw [yz z] at hj ⊢
  exact e.at_ j c hj
end
abbrev aT:=DN→(D→Prop)→Prop
abbrev cU:=DN→(Bool→Prop)→Prop
abbrev iC:=DN→(List D→Prop)→Prop
abbrev fP:=D→D→(D→Prop)→Prop
abbrev di:=D→DN→(DN→Prop)→Prop
abbrev gy:=DN→(List D→Prop)→Prop
def cX(Z:DC)(t:aT):TE:=λσ H Q=>∃(G:Hp)(ρ:DN)(P:D→Prop),aH G H∧cL Z G σ ρ∧t ρ P∧∀d,P d→∀v G' H',Ext G H G' H'→Dv Z G' v d→Q v H'
def liftT(Z:DC)(t:cU):TT:=λσ H Q=>∃(G:Hp)(ρ:DN)(P:Bool→Prop),aH G H∧cL Z G σ ρ∧t ρ P∧∀b,P b→∀G' H',Ext G H G' H'→Q b H'
def Di(Z:DC)(t:iC):TA:=λσ H Q=>∃(G:Hp)(ρ:DN)(P:List D→Prop),aH G H∧cL Z G σ ρ∧t ρ P∧∀ds,P ds→∀vs G' H',Ext G H G' H'→ar Z G' vs ds→Q vs H'
def bP(Z:DC)(r:fP):R2:=λx y H Q=>∃(G:Hp)(a b:D)(P:D→Prop),aH G H∧Dv Z G x a∧Dv Z G y b∧r a b P∧∀d,P d→∀v G' H',Ext G H G' H'→Dv Z G' v d→Q v H'
def kd(Z:DC)(r:List D→(D→Prop)→Prop):List V→Hp→VK→Prop:=λvs H Q=>∃(G:Hp)(ds:List D)(P:D→Prop),aH G H∧ar Z G vs ds∧r ds P∧∀d,P d→∀v G' H',Ext G H G' H'→Dv Z G' v d→Q v H'
abbrev dD:=List D→(D→Prop)→Prop
def aV(Z:DC)(sd:dD):Sp:=λvs H Q _=>kd Z sd vs H Q
def DE(Z:DC)(X:Cx)(e:Expr)(t:aT):Prop:=PE X e (cX Z t)
def DT(Z:DC)(X:Cx)(e:Expr)(t:cU):Prop:=PT X e (liftT Z t)
def DA(Z:DC)(X:Cx)(es:List Expr)(t:iC):Prop:=PA X es (Di Z t)
theorem PE.imp{X:Cx}{e:Expr}{t t':TE}(h:PE X e t)(f:∀σ H Q,t' σ H Q→t σ H Q):PE X e t':=λpins s σ H Q I q=>h pins s σ H Q I (f _ _ _ q)
theorem PT.imp{X:Cx}{e:Expr}{t t':TT}(h:PT X e t)(f:∀σ H Q,t' σ H Q→t σ H Q):PT X e t':=λpins s σ H Q I q=>h pins s σ H Q I (f _ _ _ q)
theorem PW.imp{X:Cx}{e:Expr}{t t':TT}(h:PW X e t)(f:∀σ H Q,t' σ H Q→t σ H Q):PW X e t':=λwh pins s σ H Q I q=>h wh pins s σ H Q I (f _ _ _ q)
theorem PA.imp{X:Cx}{es:List Expr}{t t':TA}(h:PA X es t)(f:∀σ H Q,t' σ H Q→t σ H Q):PA X es t':=λpos pins s σ H Q I q=>h pos pins s σ H Q I (f _ _ _ q)
theorem OpR.imp{X:Cx}{f:Value→Value→Sem Value}{r r':R2}(h:OpR X f r)(g:∀x y H Q,r' x y H Q→r x y H Q):OpR X f r':=λpins s σ H x y v u Q I a b q=>h pins s σ H x y v u Q I a b (g _ _ _ _ q)
theorem dU.imp{X:Cx}{f:Value}{r r':List V→Hp→VK→Prop}(h:dU X f r)(g:∀xs H Q,r' xs H Q→r xs H Q):dU X f r':=λpins s σ H xs us Q I a q=>h pins s σ H xs us Q I a (g _ _ _ q)
def Mr(i:Nat):aT:=λρ P=>∃d,ρ[i]? =some (some d)∧P d
def dC(d:D):aT:=λ_ P=>P d
section
variable {Z:DC} {X:Cx}
theorem aa(i:Nat){x:Str}{pos:Pos}(hN:X.N[i]? =some x:=by rfl)(hv:sH X.env.scope x:=by first|exact Or.inl rfl|exact Or.inr (Or.inl rfl) |exact Or.inr (Or.inr rfl))(hd:(x==("__debug__":Str))=false:=by decide)
  (fT:(x==("__classdict__":Str))=false:=by decide):DE Z X (.Name x pos) (Mr i):=
 (E6 hN hv hd fT).imp λσ H Q ⟨G,ρ,P,s,e,⟨d,hd,p⟩,q⟩=>let ⟨v,hv,dv⟩:=e.at_ i d hd;⟨v,hv,q d p v G H (.refl s) dv⟩
theorem au{i j pos}:DE Z X (.Constant (.int i) j pos) (dC (.int i)):=Lm.imp λσ H Q ⟨G,ρ,P,s,e,p,q⟩=>q _ p _ G H (.refl s) (.int i)
theorem qG{b j pos}:DE Z X (.Constant (.bool b) j pos) (dC (.bl b)):=O7.imp λσ H Q ⟨G,ρ,P,s,e,p,q⟩=>q _ p _ G H (.refl s) (.bl b)
theorem cR{j pos}:DE Z X (.Constant .none j pos) (dC .bf):=Ln.imp λσ H Q ⟨G,ρ,P,s,e,p,q⟩=>q _ p _ G H (.refl s) .bf
theorem pe{x j pos}(h:PyData.strOk x=true:=by decide+kernel):DE Z X (.Constant (.str x) j pos) (dC (.str x)):=Lq.imp λσ H Q ⟨G,ρ,P,s,e,p,q⟩=>q _ p _ G H (.refl s) (.str x h)
theorem FF{x:Str}{i:Int}{pos:Pos}(hg:Gl X x)(hm:∃tk,X.mg x=some (.int i tk))(hd:(x==("__debug__":Str))=false:=by decide):DE Z X (.Name x pos) (dC (.int i)):=by
 obtain ⟨tk,hm⟩:=hm;exact (IZ hg hm (v:= .int i) ⟨tk,rfl⟩ hd).imp λσ H Q ⟨G,ρ,P,s,e,p,q⟩=>q _ p _ G H (.refl s) (.int i)
def FC(r:fP)(ta tb:aT):aT:=λρ P=>ta ρ λa=>tb ρ λb=>r a b P
variable {a b c:Expr} {ta tb tc:aT} {pos:Pos}
theorem zp{r:fP}:∀σ H Q,cX Z (FC r ta tb) σ H Q→JS (bP Z r) (cX Z ta) (cX Z tb) σ H Q:=by
 rintro σ H Q ⟨G,ρ,P,s,e,h,q⟩;refine ⟨G,ρ,_,s,e,h,λa ha v G1 H1 x1 dv=>?_⟩;refine ⟨G1,ρ,_,x1.sub,e.mono x1.gg,ha,λb hb u G2 H2 x2 du=>?_⟩;exact ⟨G2,a,b,P,x2.sub,dv.mono x2.gg,du,hb,λd hd v' G' H' x3 yY=>q d hd v' G' H' ((x1.trans x2).trans x3) yY⟩
theorem aB{op:Operator}{r:fP}(ho:OpR X (binaryOp op) (bP Z r))(ha:DE Z X a ta)(hb:DE Z X b tb):DE Z X (.BinOp a op b pos) (FC r ta tb):=(DQ ho ha hb).imp zp
theorem j4{op:CmpOp}{r:fP}(ho:OpR X (compareOp op) (bP Z r))(ha:DE Z X a ta)(hb:DE Z X b tb)(hm:behindInMarks op b=false):DE Z X (.Compare a [op] [b] pos) (FC r ta tb):=(IY ho ha hb hm).imp zp
def yU(t:aT):cU:=λρ P=>t ρ λd=>∃k,d= .bl k∧P k
theorem w4{t:aT}:∀σ H Q,liftT Z (yU t) σ H Q→Ef (cX Z t) σ H Q:=by
 rintro σ H Q ⟨G,ρ,P,s,e,h,q⟩;refine ⟨G,ρ,_,s,e,h,?_⟩;rintro _ ⟨k,rfl,p⟩ v G1 H1 x1 dv;cases dv;exact ⟨k,rfl,q k p G1 H1 x1⟩
theorem bp{op:CmpOp}{r:fP}(ho:OpR X (compareOp op) (bP Z r))(ha:DE Z X a ta)(hb:DE Z X b tb)(hm:behindInMarks op b=false):DT Z X (.Compare a [op] [b] pos) (yU (FC r ta tb)):=
 (Jm ho ha hb hm).imp λσ H Q h=>by
  obtain h:=w4 σ H Q h;exact zp σ H _ h
def yS(r r':fP)(ta tb tc:aT):aT:=λρ P=>ta ρ λx=>tb ρ λy=>r x y λz=>∃k,z= .bl k∧(if k=true then tc ρ λw'=>r' y w' P else P (.bl false))
theorem uv{r r':fP}:∀σ H Q,cX Z (yS r r' ta tb tc) σ H Q→zW (bP Z r) (bP Z r') (cX Z ta) (cX Z tb) (cX Z tc) σ H Q:=by
 rintro σ H Q ⟨G,ρ,P,s,e,h,q⟩;refine ⟨G,ρ,_,s,e,h,λa ha v G1 H1 x1 dv=>?_⟩;refine ⟨G1,ρ,_,x1.sub,e.mono x1.gg,ha,λb hb u G2 H2 x2 du=>?_⟩;refine ⟨G2,a,b,_,x2.sub,dv.mono x2.gg,du,hb,?_⟩;rintro _ ⟨k,rfl,hk⟩ v' G3 H3 x3 yY;cases yY;refine ⟨k,rfl,?_⟩;have x:=(x1.trans x2).trans x3;cases k with
 |false=>exact cF (q _ hk _ G3 H3 x (.bl false))
 |true=>
  refine cM ⟨G3,ρ,_,x3.sub,e.mono x.gg,hk,λc hc w' G4 H4 x4 dw=>?_⟩;exact ⟨G4,b,c,P,x4.sub,(du.mono x3.gg).mono x4.gg,dw,hc,λd hd v'' G' H' x5 d5=>q d hd v'' G' H' ((x.trans x4).trans x5) d5⟩
theorem FD{op oP:CmpOp}{r r':fP}(ho:OpR X (compareOp op) (bP Z r))(lg:OpR X (compareOp oP) (bP Z r'))(ha:DE Z X a ta)(hb:DE Z X b tb)(hc:DE Z X c tc)
  (hm:lastMarks [op,oP] [b,c]=false:=by with_unfolding_all rfl):DE Z X (.Compare a [op,oP] [b,c] pos) (yS r r' ta tb tc):=(Gj ho lg ha hb hc hm).imp uv
theorem FI{op oP:CmpOp}{r r':fP}(ho:OpR X (compareOp op) (bP Z r))(lg:OpR X (compareOp oP) (bP Z r'))(ha:DE Z X a ta)(hb:DE Z X b tb)(hc:DE Z X c tc)
  (hm:lastMarks [op,oP] [b,c]=false:=by with_unfolding_all rfl):DT Z X (.Compare a [op,oP] [b,c] pos) (yU (yS r r' ta tb tc)):=
 (Gs ho lg ha hb hc hm).imp λσ H Q h=>by
  obtain h:=w4 σ H Q h;exact uv σ H _ h
def xr:D→Bool
 | .bf=>false
 | .bl b=>b
 | .int i=>i !=0
 | .str x=>x.length !=0
 | .lst l=>!l.isEmpty
 | .tup l=>!l.isEmpty
 | .jW l=>!l.isEmpty
 | .rng lo hi=>decide (lo<hi)
 | .obj _=>true
 | .eE _=>true
 | .set _ l=>!l.isEmpty
def Sx:D→Bool
 | .bl _=>true
 | .int _=>true
 | .lst _=>true
 | .tup _=>true
 | .bf=>true
 |_=>false
def Q8(t:aT):cU:=λρ P=>t ρ λd=>Sx d=true∧P (xr d)
theorem rP{G:Hp}{vs:List V}{ds:List D}(h:ar Z G vs ds):vs.isEmpty=ds.isEmpty:=by cases h<;>rfl
theorem i8(ha:DE Z X a ta)(he:∀whole,isTrue a X.env whole=(do let v ←whole;standAt a.pos;holding [v] (truthy v)):=by intro _;rfl):DT Z X a (Q8 ta):=by
 refine (Gu ha he).imp ?_;rintro σ H Q ⟨G,ρ,P,s,e,h,q⟩;refine ⟨G,ρ,_,s,e,h,?_⟩;rintro d ⟨hd,p⟩ v G1 H1 x1 dv;refine ⟨xr d,?_,q _ p G1 H1 x1⟩;cases dv with
 |bf=>rfl
 |bl b=>rfl
 |int i=>rfl
 |lst h a=>exact .inl ⟨_,cp.of (x1.sub _ _ h),by rw [rP a];rfl⟩
 |tup h a=>exact .inr (.inl ⟨_,fR.of (x1.sub _ _ h),by rw [rP a];rfl⟩)
 |_=>cases hd
def QQ(t u:cU):cU:=λρ P=>t ρ λc=>if c=true then u ρ P else P false
def WM(t u:cU):cU:=λρ P=>t ρ λc=>if c=true then P true else u ρ P
def Q2(t:cU):cU:=λρ P=>t ρ λc=>P (!c)
variable {tA zV:cU} {rest:List Expr}
def DW(Z:DC)(X:Cx)(e:Expr)(t:cU):Prop:=PW X e (liftT Z t)
theorem DW.dt{e:Expr}{t:cU}(h:DW Z X e t):DT Z X e t:=PW.pt h
theorem A7(ha:DT Z X a tA):DW Z X (.BoolOp .And [a] pos) tA:=Jq ha
theorem tx(ha:DT Z X a tA):DW Z X (.BoolOp .Or [a] pos) tA:=Lv ha
theorem EG(ha:DT Z X a tA)(hb:DW Z X (.BoolOp .And (b::rest) pos) zV):DW Z X (.BoolOp .And (a::b::rest) pos) (QQ tA zV):=by
 refine (Lu ha hb).imp ?_;rintro σ H Q ⟨G,ρ,P,s,e,h,q⟩;refine ⟨G,ρ,_,s,e,h,λc hc G1 H1 x1=>?_⟩;cases c with
 |true=>exact cM ⟨G1,ρ,P,x1.sub,e.mono x1.gg,hc,λb hb G2 H2 x2=>q b hb G2 H2 (x1.trans x2)⟩
 |false=>exact cF (q _ hc G1 H1 x1)
theorem t8(ha:DT Z X a tA)(hb:DW Z X (.BoolOp .Or (b::rest) pos) zV):DW Z X (.BoolOp .Or (a::b::rest) pos) (WM tA zV):=by
 refine (Pd ha hb).imp ?_;rintro σ H Q ⟨G,ρ,P,s,e,h,q⟩;refine ⟨G,ρ,_,s,e,h,λc hc G1 H1 x1=>?_⟩;cases c with
 |false=>exact cF ⟨G1,ρ,P,x1.sub,e.mono x1.gg,hc,λb hb G2 H2 x2=>q b hb G2 H2 (x1.trans x2)⟩
 |true=>exact cM (q _ hc G1 H1 x1)
theorem mW(ha:DT Z X a tA):DT Z X (.UnaryOp .Not a pos) (Q2 tA):=by
 refine (Ls ha).imp ?_;rintro σ H Q ⟨G,ρ,P,s,e,h,q⟩;exact ⟨G,ρ,_,s,e,h,λc hc G1 H1 x1=>q _ hc G1 H1 x1⟩
def Nv(ta tb:aT):aT:=λρ P=>ta ρ λx=>∃c,x= .bl c∧if c=true then tb ρ P else P (.bl false)
def Q3(ta tb:aT):aT:=λρ P=>ta ρ λx=>∃c,x= .bl c∧if c=true then P (.bl true) else tb ρ P
def NB(ta:aT):aT:=λρ P=>ta ρ λx=>∃c,x= .bl c∧P (.bl (!c))
theorem tj{op}(h:DE Z X a ta):DE Z X (.BoolOp op [a] pos) ta:=Lp h
theorem mU(ha:DE Z X a ta)(hb:DE Z X (.BoolOp .And (b::rest) pos) tb):DE Z X (.BoolOp .And (a::b::rest) pos) (Nv ta tb):=by
 refine (Li ha hb).imp ?_;rintro σ H Q ⟨G,ρ,P,s,e,h,q⟩;refine ⟨G,ρ,_,s,e,h,?_⟩;rintro _ ⟨c,rfl,hc⟩ v G1 H1 x1 dv;cases dv;refine ⟨c,rfl,?_⟩;cases c with
 |true=>exact cM ⟨G1,ρ,P,x1.sub,e.mono x1.gg,hc,λb hb v G2 H2 x2 d2=>q b hb v G2 H2 (x1.trans x2) d2⟩
 |false=>exact cF (q _ hc _ G1 H1 x1 (.bl false))
theorem NK(ha:DE Z X a ta)(hb:DE Z X (.BoolOp .Or (b::rest) pos) tb):DE Z X (.BoolOp .Or (a::b::rest) pos) (Q3 ta tb):=by
 refine (O9 ha hb).imp ?_;rintro σ H Q ⟨G,ρ,P,s,e,h,q⟩;refine ⟨G,ρ,_,s,e,h,?_⟩;rintro _ ⟨c,rfl,hc⟩ v G1 H1 x1 dv;cases dv;refine ⟨c,rfl,?_⟩;cases c with
 |false=>exact cF ⟨G1,ρ,P,x1.sub,e.mono x1.gg,hc,λb hb v G2 H2 x2 d2=>q b hb v G2 H2 (x1.trans x2) d2⟩
 |true=>exact cM (q _ hc _ G1 H1 x1 (.bl true))
theorem Kg(ha:DE Z X a ta):DE Z X (.UnaryOp .Not a pos) (NB ta):=by
 refine (Lo ha).imp ?_;rintro σ H Q ⟨G,ρ,P,s,e,h,q⟩;refine ⟨G,ρ,_,s,e,h,?_⟩;rintro _ ⟨c,rfl,hc⟩ v G1 H1 x1 dv;cases dv;exact ⟨c,rfl,q _ hc _ G1 H1 x1 (.bl _)⟩
def pd:iC:=λ_ P=>P []
def Nw(ta:aT)(t:iC):iC:=λρ P=>ta ρ λx=>t ρ λxs=>P (x::xs)
variable {es:List Expr} {t:iC} {e:Expr}
theorem ag:DA Z X [] pd:=ig.imp λσ H Q ⟨G,ρ,P,s,e,p,q⟩=>q _ p _ G H (.refl s) .nil
theorem ab(ha:DE Z X e ta)(hr:DA Z X es t)(hs:starEach (e::es) X.env=(false,eval e X.env)::starEach es X.env:=by rfl):DA Z X (e::es) (Nw ta t):=by
 refine (dO ha hr hs).imp ?_;rintro σ H Q ⟨G,ρ,P,s,e,h,q⟩;refine ⟨G,ρ,_,s,e,h,λa ha v G1 H1 x1 dv=>?_⟩;exact ⟨G1,ρ,_,x1.sub,e.mono x1.gg,ha,λds hd vs G2 H2 x2 bo=>q _ hd _ G2 H2 (x1.trans x2) (.cons (dv.mono x2.gg) bo)⟩
def Q9(t:iC):aT:=λρ P=>t ρ λxs=>xs.length≤sizeLine∧P (.tup xs)
def QZ(t:iC):aT:=λρ P=>t ρ λxs=>xs.length≤sizeLine∧P (.lst xs)
theorem eT{x1}(h:DA Z X es t):DE Z X (.Tuple es x1 pos) (Q9 t):=by
 refine (E5 h).imp ?_;rintro σ H Q ⟨G,ρ,P,s,e,h,q⟩;refine ⟨G,ρ,_,s,e,h,?_⟩;rintro ds ⟨hl,hp⟩ vs G1 H1 x1 bo;exact ⟨by rw [bo.length];exact hl,λp h8=>q _ hp _ _ _ (x1.trans (.new x1.sub h8)) (.tup ax (bo.mono (aQ (x1.sub.free h8) _)))⟩
theorem cx(h:DA Z X es t):DE Z X (.List es pos) (QZ t):=by
 refine (E4 h).imp ?_;rintro σ H Q ⟨G,ρ,P,s,e,h,q⟩;refine ⟨G,ρ,_,s,e,h,?_⟩;rintro ds ⟨hl,hp⟩ vs G1 H1 x1 bo;exact ⟨by rw [bo.length];exact hl,λp h8=>q _ hp _ _ _ (x1.trans (.new x1.sub h8)) (.lst ax (bo.mono (aQ (x1.sub.free h8) _)))⟩
def tX(r:List D→(D→Prop)→Prop)(t:iC):aT:=λρ P=>t ρ λds=>r ds P
theorem qT{r:List D→(D→Prop)→Prop}:∀σ H Q,cX Z (tX r t) σ H Q→Di Z t σ H λvs H1=>kd Z r vs H1 Q:=by
 rintro σ H Q ⟨G,ρ,P,s,e,h,q⟩;exact ⟨G,ρ,_,s,e,h,λds hd vs G1 H1 x1 bo=>⟨G1,ds,P,x1.sub,bo,hd,λd hp v G2 H2 x2 dv=>q d hp v G2 H2 (x1.trans x2) dv⟩⟩
theorem Ht{sd:dD}{k:Nat}{f:Addr}{fd:FuncData}{ps:List Str}{x:Str}{p:Pos}(F:FnOk X.prog X.w X.K X.mg X.base cO k f fd ps (aV Z sd))(hr:cC k X.A)(hg:Gl X x)(hm:X.mg x=some (.ref f))(hk:PySem.W.keepIn X.K (.ref f)=true)(hb:Binds X.K fd ps [])
  (ha:DA Z X (e::es) t) (lS:(x==("__debug__":Str))=false:=by decide) (he:starEach (e::es) X.env=(false,eval e X.env)::starEach es X.env:=by rfl) (eU:(backTo pos (starEach es X.env)).any (·.1)=false:=by rfl):
  DE Z X (.Call (.Name x p) (e::es) [] pos) (tX sd t):=
 (IW F hr hg hm hk hb .nil zF ha lS he eU).imp λσ H Q h=>by
  have h:=qT σ H Q h;obtain ⟨G,ρ,P,s,e,h,q⟩:=h;exact ⟨G,ρ,P,s,e,h,λds hd vs G1 H1 x1 bo=>by show aV Z sd (vs++ []) H1 Q E0;rw [hJ];exact q ds hd vs G1 H1 x1 bo⟩
theorem ay{id:String}{x:Str}{p:Pos}{r:List D→(D→Prop)→Prop}(hc:dU X (.builtin id) (kd Z r))(hg:Gl X x)(hm:X.mg x=none)(hv:bootBuiltins x=some (.builtin id))(ha:DA Z X (e::es) t)(hn:x≠"__name__":=by decide)(lS:(x==("__debug__":Str))=false:=by decide)
  (he:starEach (e::es) X.env=(false,eval e X.env)::starEach es X.env:=by rfl) (eU:(backTo pos (starEach es X.env)).any (·.1)=false:=by rfl):
  DE Z X (.Call (.Name x p) (e::es) [] pos) (tX r t):=(xc hc hg hm hv ha hn lS he eU).imp qT
theorem j3{T:String}{x:Str}{p:Pos}{r:List D→(D→Prop)→Prop}(hc:dU X (.type T) (kd Z r))(hg:Gl X x)(hm:X.mg x=none)(hv:bootBuiltins x=some (.type T))(ha:DA Z X (e::es) t)(hn:x≠"__name__":=by decide)(lS:(x==("__debug__":Str))=false:=by decide)
  (he:starEach (e::es) X.env=(false,eval e X.env)::starEach es X.env:=by rfl) (eU:(backTo pos (starEach es X.env)).any (·.1)=false:=by rfl):
  DE Z X (.Call (.Name x p) (e::es) [] pos) (tX r t):=(DP hc hg hm hv ha hn lS he eU).imp qT
end
end L2
namespace L2
open PySem PySem.Spec PyProof.Rows
section
variable {Z:DC} {X:Cx}
def Ml:fP:=λx y P=>match x,y with
 | .int i, .int j=>P (.int (i+j))
 | .lst a, .lst b=>a.length+b.length≤sizeLine∧P (.lst (a++b))
 | .tup a, .tup b=>a≠ []∧a.length+b.length≤sizeLine∧b≠ []∧P (.tup (a++b))
 |_,_=>False
def dI(c:Int→Int→Prop)(g:Int→Int→Int):fP:=λx y P=>match x,y with
 | .int i, .int j=>c i j∧P (.int (g i j))
 |_,_=>False
def Nx(g:Int→Int→Int):fP:=λx y P=>match x,y with
 | .int i, .int j=>P (.int (g i j))
 |_,_=>False
def Q7:fP:=Nx λi j=>i-j
def Mq:fP:=λx y P=>match x,y with
 | .int i, .int j=>Eu i j∧P (.int (i*j))
 | .lst a, .int k=> -(2^63)≤k∧k<2^63∧a.length*k.toNat≤sizeLine∧P (.lst (List.replicate k.toNat a).flatten)
 |_,_=>False
def QT:fP:=dI LW λi j=>i / j
def Q0:fP:=dI (λ_ j=>0<j) λi j=>i%j
def Q5:fP:=dI LX λi j=>i^j.toNat
theorem zq{f:Value→Value→Sem Value}{c:Int→Int→Prop}{g:Int→Int→Int}(h:OpR X f (rI c λi j=> .int (g i j))):OpR X f (bP Z (dI c g)):=by
 refine h.imp ?_;rintro x y H Q ⟨G,a,b,P,s,da,db,hr,q⟩;unfold dI at hr
 split at hr
 ·exact ⟨_,_,da.ofInt,db.ofInt,hr.1,q _ hr.2 _ G H (.refl s) (.int _)⟩
 ·exact hr.elim
theorem KZ{f:Value→Value→Sem Value}{g:Int→Int→Int}(h:OpR X f (zJ λi j=> .int (g i j))):OpR X f (bP Z (Nx g)):=by
 refine h.imp ?_;rintro x y H Q ⟨G,a,b,P,s,da,db,hr,q⟩;unfold Nx at hr
 split at hr
 ·exact ⟨_,_,da.ofInt,db.ofInt,q _ hr _ G H (.refl s) (.int _)⟩
 ·exact hr.elim
theorem ie:OpR X (binaryOp .Sub) (bP Z Q7):=KZ Lh
theorem fV:OpR X (binaryOp .FloorDiv) (bP Z QT):=zq IS
theorem cJ:OpR X (binaryOp .Mod) (bP Z Q0):=zq Lc
theorem EX:OpR X (binaryOp .Pow) (bP Z Q5):=zq Lf
theorem bO(e:X.K=Z.K:=by rfl):OpR X (binaryOp .Add) (bP Z Ml):=by
 refine (K9.or (zE.or (IQ))).imp ?_;rintro x y H Q ⟨G,a,b,P,s,da,db,hr,q⟩;unfold Ml at hr
 split at hr
 ·exact .inl ⟨_,_,da.ofInt,db.ofInt,q _ hr _ G H (.refl s) (.int _)⟩
 ·obtain ⟨a1,JZ,rfl,h1,e1⟩:=da.iL
  obtain ⟨a2,VA,rfl,h2,e2⟩:=db.iL;obtain ⟨hz,hp⟩:=hr;refine .inr (.inl ⟨_,_,_,_,rfl,rfl,s _ _ h1,s _ _ h2,by rw [e1.length,e2.length];exact hz,λp hn=>?_⟩)
  exact q _ hp _ _ _ (.new s hn) (.lst ax ((e1.append e2).mono (aQ (s.free hn) _)))
 ·obtain ⟨a1,JZ,rfl,h1,e1⟩:=da.uE
  obtain ⟨a2,VA,rfl,h2,e2⟩:=db.uE;obtain ⟨h0,hz,Xe,hp⟩:=hr;refine .inr (.inr ⟨_,_,_,_,rfl,rfl,fR.of (s _ _ h1),fR.of (s _ _ h2),?_,by rw [e1.length,e2.length];exact hz,?_⟩)
  ·rintro rfl;cases e1;exact h0 rfl
  ·refine ⟨?_,λ_ p hn=>q _ hp _ _ _ (.new s hn) (.tup ax ((e1.append e2).mono (aQ (s.free hn) _)))⟩
   rintro rfl;cases e2;exact (Xe rfl).elim
 ·exact hr.elim
theorem ar.rep{G:Hp}{vs:List V}{ds:List D}(h:ar Z G vs ds):∀k:Nat,ar Z G (List.replicate k vs).flatten (List.replicate k ds).flatten
 |0=> .nil
 |k+1=>by rw [vE,vE,yC,yC];exact h.append (ar.rep h k)
theorem tE:OpR X (binaryOp .Mult) (bP Z Mq):=by
 refine (Ld.or Lg).imp ?_;rintro x y H Q ⟨G,a,b,P,s,da,db,hr,q⟩;unfold Mq at hr
 split at hr
 ·exact .inl ⟨_,_,da.ofInt,db.ofInt,hr.1,q _ hr.2 _ G H (.refl s) (.int _)⟩
 ·obtain ⟨a1,JZ,rfl,h1,e1⟩:=da.iL
  obtain ⟨h0,h9,hz,hp⟩:=hr;refine .inr ⟨_,_,_,rfl,db.ofInt,s _ _ h1,h0,h9,by rw [e1.length];exact hz,λp hn=>?_⟩
  exact q _ hp _ _ _ (.new s hn) (.lst ax ((e1.rep _).mono (aQ (s.free hn) _)))
 ·exact hr.elim
mutual
def D.py:D→Option PyData
 | .bf=>some .none
 | .bl b=>some (.bool b)
 | .int i=>some (.int i)
 | .str x=>some (.str x)
 | .lst l=>(fC l).map PyData.list
 | .tup l=>(fC l).map PyData.tuple
 | .jW _=>none
 | .rng _ _=>none
 | .obj _=>none
 | .eE _=>none
 | .set _ _=>none
def fC:List D→Option (List PyData)
 | []=>some []
 |d::ds=>(D.py d).bind λa=>(fC ds).map λas=>a::as
end
mutual
theorem Dv.dp{K:PySem.W.Frag}{G:Hp}:∀{v:V}{d:D}{e:PyData},Dv Z G v d→d.py=some e→Dp K G v e
 |_,_,_, .bf,h=>by simp [D.py] at h;subst h;exact .bf
 |_,_,_, .bl b,h=>by simp [D.py] at h;subst h;exact .bl b
 |_,_,_, .int i,h=>by simp [D.py] at h;subst h;exact .int i
 |_,_,_, .str x k,h=>by simp [D.py] at h;subst h;exact .str x k
 |_,_,_, .lst a as,h=>by
  simp [D.py] at h;obtain ⟨l,h1,rfl⟩:=h;exact .lst (cp.of a) (ar.dp as h1)
 |_,_,_, .tup a as,h=>by
  simp [D.py] at h;obtain ⟨l,h1,rfl⟩:=h;exact .tup (fR.of a) (ar.dp as h1)
 |_,_,_, .jW _ _,h=>by simp [D.py] at h
 |_,_,_, .rng _,h=>by simp [D.py] at h
 |_,_,_, .obj _,h=>by simp [D.py] at h
 |_,_,_, .eE _ _ _ _ _,h=>by simp [D.py] at h
 |_,_,_, .set _,h=>by simp [D.py] at h
theorem ar.dp{K:PySem.W.Frag}{G:Hp}:∀{vs:List V}{ds:List D}{es:List PyData},ar Z G vs ds→fC ds=some es→eG K G vs es
 |_,_,_, .nil,h=>by simp [fC] at h;subst h;exact .nil
 |_,_,_, .cons (d:=d) (ds:=ds) a as,h=>by
  rw [fC] at h;cases h1:d.py with
  |none=>rw [h1] at h;cases h
  |some x=>
   rw [h1] at h;cases h2:fC ds with
   |none=>rw [h2] at h;cases h
   |some y=>rw [h2] at h;cases h;exact .cons (Dv.dp a h1) (ar.dp as h2)
end
theorem fR.mono{K:PySem.W.Frag}{H H':Hp}{a:Addr}{xs:List V}(s:aH H H')(h:fR K H a xs):fR K H' a xs:=by
 rcases h with (h| ⟨o,h⟩) |h
 ·exact .inl (.inl (s _ _ h))
 ·exact .inl (.inr ⟨o,s _ _ h⟩)
 ·exact .inr h
mutual
theorem Dp.mono{K:PySem.W.Frag}{G H:Hp}(s:aH G H):∀{v:V}{d:PyData},Dp K G v d→Dp K H v d
 |_,_, .bf=> .bf
 |_,_, .bl b=> .bl b
 |_,_, .int i=> .int i
 |_,_, .str x h=> .str x h
 |_,_, .lst h a=> .lst (h.mono s) (eG.mono s a)
 |_,_, .tup h a=> .tup (h.mono s) (eG.mono s a)
theorem eG.mono{K:PySem.W.Frag}{G H:Hp}(s:aH G H):∀{vs:List V}{ds:List PyData},eG K G vs ds→eG K H vs ds
 |_,_, .nil=> .nil
 |_,_, .cons a as=> .cons (Dp.mono s a) (eG.mono s as)
end
def Mm(neg:Bool):fP:=λx y P=>∃a b,x.py=some a∧y.py=some b∧a.depth≤64∧P (.bl (if neg then !PyData.eqv a b else PyData.eqv a b))
abbrev yT:fP:=Mm false
abbrev NA:fP:=Mm true
theorem jr(hu:X.A.units+64<cLine):OpR X (compareOp .Eq) (bP Z yT):=by
 refine (La hu).imp ?_;rintro x y H Q ⟨G,a,b,P,s,da,db,⟨c,d,h1,h2,h3,hp⟩,q⟩;exact ⟨c,d,(da.dp h1).mono s,(db.dp h2).mono s,h3,q _ hp _ G H (.refl s) (.bl _)⟩
theorem DB(hu:X.A.units+64<cLine):OpR X (compareOp .NotEq) (bP Z NA):=by
 refine (Le hu).imp ?_;rintro x y H Q ⟨G,a,b,P,s,da,db,⟨c,d,h1,h2,h3,hp⟩,q⟩;exact ⟨c,d,(da.dp h1).mono s,(db.dp h2).mono s,h3,q _ hp _ G H (.refl s) (.bl _)⟩
theorem tY{i j:Int}{P:D→Prop}(h:P (.bl (decide (i=j)))):yT (.int i) (.int j) P:=⟨.int i, .int j,rfl,rfl,by simp [PyData.depth],by
 have:PyData.eqv (.int i) (.int j)=decide (i=j):=by
  rw [PyData.eqv]
  by_cases z:i=j<;>simp [z]
 simpa [this] using h⟩
def AY(p:Int→Int→Bool):fP:=λx y P=>match x,y with
 | .int i, .int j=>P (.bl (p i j))
 |_,_=>False
theorem uw{f:Value→Value→Sem Value}{p:Int→Int→Bool}(h:OpR X f (zJ λi j=> .bl (p i j))):OpR X f (bP Z (AY p)):=by
 refine h.imp ?_;rintro x y H Q ⟨G,a,b,P,s,da,db,hr,q⟩;unfold AY at hr
 split at hr
 ·exact ⟨_,_,da.ofInt,db.ofInt,q _ hr _ G H (.refl s) (.bl _)⟩
 ·exact hr.elim
end
end L2
namespace L2
open PySem PySem.Spec PyProof.Rows
section
variable {Z:DC} {X:Cx}
abbrev WL:fP:=AY λi j=>decide (i<j)
abbrev WK:fP:=AY λi j=>decide (i≤j)
abbrev WJ:fP:=AY λi j=>decide (j<i)
theorem qW:OpR X (compareOp .Lt) (bP Z WL):=uw O3
theorem Dz:OpR X (compareOp .LtE) (bP Z WK):=uw O2
theorem zz:OpR X (compareOp .Gt) (bP Z WJ):=uw O1
def C9:D→Bool
 | .bf=>true
 |_=>false
def Hm(neg:Bool):fP:=λx y P=>match y with
 | .bf=>P (.bl (if neg then !C9 x else C9 x))
 |_=>False
theorem wV{G:Hp}{v:V}{d:D}(h:Dv Z G v d):decide (v= .bf)=C9 d:=by cases h<;>rfl
theorem oO:OpR X (compareOp .Is) (bP Z (Hm false)):=by
 refine Lb.imp ?_;rintro x y H Q ⟨G,a,b,P,s,da,db,hr,q⟩;cases db<;>first|exact hr.elim|skip
 exact ⟨rfl,by rw [wV da];exact q _ hr _ G H (.refl s) (.bl _)⟩
theorem Gg:OpR X (compareOp .IsNot) (bP Z (Hm true)):=by
 refine IT.imp ?_;rintro x y H Q ⟨G,a,b,P,s,da,db,hr,q⟩;cases db<;>first|exact hr.elim|skip
 exact ⟨rfl,by rw [wV da];exact q _ hr _ G H (.refl s) (.bl _)⟩
def fi:D→Bool
 | .bf=>true
 | .bl _=>true
 | .int _=>true
 | .str _=>true
 |_=>false
def i9:D→D→Bool
 | .bf, .bf=>true
 | .bl a, .bl b=>a==b
 | .bl a, .int b=>(if a then 1 else 0)==b
 | .int a, .bl b=>a==(if b then 1 else 0)
 | .int a, .int b=>a==b
 | .str a, .str b=>a==b
 |_,_=>false
def inD(x:D)(l:List D):Bool:=l.any λy=>i9 y x
theorem pE{G:Hp}{v:V}{d:D}(h:Dv Z G v d):gr v=fi d:=by cases h<;>rfl
theorem ja{G:Hp}:∀{vs:List V}{ds:List D},ar Z G vs ds→vs.all gr=ds.all fi
 |_,_, .nil=>rfl
 |_,_, .cons a as=>by rw [List.all_cons,List.all_cons,pE a,ja as]
theorem y2{G:Hp}{v u:V}{d e:D}(h:Dv Z G v d)(k:Dv Z G u e):ua v u=i9 d e:=by cases h<;>cases k<;>rfl
theorem C6{G:Hp}{v:V}{d:D}(h:Dv Z G v d):∀{vs:List V}{ds:List D},ar Z G vs ds→KG v vs=inD d ds
 |_,_, .nil=>rfl
 |_,_, .cons a as=>by
  unfold KG inD;rw [List.any_cons,List.any_cons,y2 a h];exact congrArg _ (C6 h as)
def Kc(neg:Bool):fP:=λx y P=>match y with
 | .lst l=>fi x=true∧l.all fi=true∧P (.bl (if neg then !inD x l else inD x l))
 | .tup l=>fi x=true∧l.all fi=true∧P (.bl (if neg then !inD x l else inD x l))
 |_=>False
theorem Jv{neg:Bool}:∀x y H Q,bP Z (Kc neg) x y H Q→Pk X.K neg x y H Q:=by
 rintro x y H Q ⟨G,a,b,P,s,da,db,hr,q⟩;cases db<;>first|exact hr.elim|skip
 ·rename_i p xs ds h e
  obtain ⟨h1,h2,hp⟩:=hr;refine ⟨p,xs,rfl, .inl (cp.of (s _ _ h)),by rw [pE da];exact h1,by rw [ja e];exact h2,?_⟩
  rw [C6 da e];exact q _ hp _ G H (.refl s) (.bl _)
 ·rename_i p xs ds h e
  obtain ⟨h1,h2,hp⟩:=hr;refine ⟨p,xs,rfl, .inr (fR.of (s _ _ h)),by rw [pE da];exact h1,by rw [ja e];exact h2,?_⟩
  rw [C6 da e];exact q _ hp _ G H (.refl s) (.bl _)
theorem zA:OpR X (compareOp .In) (bP Z (Kc false)):=DK.imp Jv
theorem qX:OpR X (compareOp .NotIn) (bP Z (Kc true)):=wc.imp Jv
def QY:fP:=λx y P=>match x,y with
 | .lst l, .int i=>∃d,gD l i=some d∧P d
 | .tup l, .int i=>∃d,gD l i=some d∧P d
 | .jW l, .int i=>∃n,gD l i=some n∧P (.int n)
 |_,_=>False
theorem Ey{G:Hp}{vs:List V}{ds:List D}{i:Int}{d:D}(h:ar Z G vs ds)(e:gD ds i=some d):∃v,gD vs i=some v∧Dv Z G v d:=by
 unfold gD at e ⊢;rw [h.length];cases z:oF ds.length i with
 |none=>rw [z] at e;cases e
 |some j=>rw [z] at e;exact h.get e
theorem Ha{α β:Type}(f:α→β)(l:List α)(i:Int):gD (l.map f) i=(gD l i).map f:=by
 unfold gD;rw [aK];cases oF l.length i with
 |none=>rfl
 |some j=>show (l.map f)[j]? =_;rw [fc];rfl
variable {a b c e:Expr} {ta tb tc te:aT} {pos:Pos}
theorem bJ(ha:DE Z X a ta)(hb:DE Z X b tb)(eK:X.K=Z.K:=by rfl)(hs:AJ b:=by exact λ_ _=>rfl):DE Z X (.Subscript a b pos) (FC QY ta tb):=by
 refine (O8 (Ip.or KI) ha hb hs).imp λσ H Q h=>?_;obtain ⟨G,ρ,P,s,e,h,q⟩:=zp σ H Q h;refine ⟨G,ρ,P,s,e,h,λd hd v G1 H1 x1 dv=>?_⟩;obtain ⟨G',aA,P',s',e',h',q'⟩:=q d hd v G1 H1 x1 dv;refine ⟨G',aA,P',s',e',h',λd2 hd2 v2 G2 H2 x2 yZ=>?_⟩;obtain ⟨G,a,b,P,s,da,db,hr,q⟩:=q' d2 hd2 v2 G2 H2 x2 yZ;unfold QY at hr
 split at hr
 ·obtain ⟨d,h1,hp⟩:=hr
  obtain ⟨_,_,rfl,h,e⟩:=da.iL;obtain ⟨v,hv,dv⟩:=Ey e h1;exact .inl ⟨_,_,_,v,rfl,db.ofInt,cp.of (s _ _ h),hv,q _ hp _ G _ (.refl s) dv⟩
 ·obtain ⟨d,h1,hp⟩:=hr
  obtain ⟨_,_,rfl,h,e⟩:=da.uE;obtain ⟨v,hv,dv⟩:=Ey e h1;exact .inr ⟨_,_,_,v,rfl,db.ofInt,fR.of (s _ _ h),hv,q _ hp _ G _ (.refl s) dv⟩
 rotate_left
 ·exact hr.elim
 ·obtain ⟨d,h1,hp⟩:=hr
  obtain ⟨_,rfl,h,_⟩:=da.IK;refine .inl ⟨_,_,_, .int d,rfl,db.ofInt,by rw [eK];exact h.mono s,by rw [Ha,h1];rfl,q _ hp _ G _ (.refl s) (.int d)⟩
def cutD{α:Type}(xs:List α)(lo hi:Option Int):List α:=(xs.drop (HT.bD xs.length 0 lo)).take (HT.bD xs.length xs.length hi-HT.bD xs.length 0 lo)
theorem yR{G:Hp}{vs:List V}{ds:List D}(h:ar Z G vs ds)(lo hi:Option Int):ar Z G (rL vs lo hi) (cutD ds lo hi):=by
 unfold rL cutD;rw [h.length];exact (h.drop _).take _
theorem wu{α β:Type}(f:α→β)(l:List α)(lo hi:Option Int):cutD (l.map f) lo hi=(cutD l lo hi).map f:=by
 unfold cutD;rw [aK,mO,mP]
abbrev AH:=DN→(Option Int→Prop)→Prop
def Hq:AH:=λ_ P=>P none
def ND(t:aT):AH:=λρ P=>t ρ λd=>match d with
 | .int i=>P (some i)
 |_=>False
def OS(Z:DC)(t:AH):TO:=λσ H Q=>∃(G:Hp)(ρ:DN)(P:Option Int→Prop),aH G H∧cL Z G σ ρ∧t ρ P∧∀o,P o→∀G' H',Ext G H G' H'→Q o H'
def DO(Z:DC)(X:Cx)(e:Option Expr)(t:AH):Prop:=PO X e (OS Z t)
theorem PO.imp{e:Option Expr}{t t':TO}(h:PO X e t)(f:∀σ H Q,t' σ H Q→t σ H Q):PO X e t':=λpins s σ H Q I q=>h pins s σ H Q I (f _ _ _ q)
theorem b7:DO Z X none Hq:=Jj.imp λσ H Q ⟨G,ρ,P,s,e,p,q⟩=>q _ p G H (.refl s)
theorem bG(h:DE Z X e te):DO Z X (some e) (ND te):=by
 refine (Jk h).imp ?_;rintro σ H Q ⟨G,ρ,P,s,e,h,q⟩;refine ⟨G,ρ,_,s,e,h,λd hd v G1 H1 x1 dv=>?_⟩;cases dv<;>first|exact hd.elim|skip
 exact ⟨_,rfl,q _ hd G1 H1 x1⟩
def WN(te:aT)(tl th:AH):aT:=λρ P=>te ρ λx=>tl ρ λlo=>th ρ λhi=>match x with
 | .lst l=>P (.lst (cutD l lo hi))
 | .tup l=>¬(HT.bD l.length 0 lo=0∧HT.bD l.length l.length hi=l.length)∧P (.tup (cutD l lo hi))
 | .jW l=>P (.lst ((cutD l lo hi).map D.int))
 |_=>False
variable {lo hi:Option Expr} {tl th:AH} {p2:Pos}
theorem bM(he:DE Z X e te)(hl:DO Z X lo tl)(hu:DO Z X hi th)(eK:X.K=Z.K:=by rfl):DE Z X (.Subscript e (.Slice lo hi none p2) pos) (WN te tl th):=by
 refine (xf (BZ.or LC) he hl hu).imp ?_;rintro σ H Q ⟨G,ρ,P,s,en,h,q⟩;refine ⟨G,ρ,_,s,en,h,λd hd v G1 H1 x1 dv=>?_⟩;refine ⟨G1,ρ,_,x1.sub,en.mono x1.gg,hd,λl hl G2 H2 x2=>?_⟩;refine ⟨G2,ρ,_,x2.sub,(en.mono x1.gg).mono x2.gg,hl,λu hu G3 H3 x3=>?_⟩;have x:=(x1.trans x2).trans x3;have dv:=(dv.mono x2.gg).mono x3.gg;cases dv<;>first|exact hu.elim|skip
 ·rename_i h e
  exact .inl ⟨_,_,rfl,cp.of (x3.sub _ _ h),λp hn=>q _ hu _ _ _ (x.trans (.new x3.sub hn)) (.lst ax ((yR e l u).mono (aQ (x3.sub.free hn) _)))⟩
 ·rename_i h e
  refine .inr ⟨_,_,rfl,fR.of (x3.sub _ _ h),by rw [e.length];exact hu.1,λp hn=>q _ hu.2 _ _ _ (x.trans (.new x3.sub hn)) (.tup ax ((yR e l u).mono (aQ (x3.sub.free hn) _)))⟩
 ·rename_i h _
  refine .inl ⟨_,_,rfl,by rw [eK];exact h.mono x3.sub,λp hn=>q _ hu _ _ _ (x.trans (.new x3.sub hn)) (.lst ax ?_)⟩
  show ar Z _ (cutD _ l u) _;rw [wu];exact .ints _
def AO:dD:=λds P=>match ds with
 | [.lst l]=>P (.int l.length)
 | [.tup l]=>P (.int l.length)
 | [.jW l]=>P (.int l.length)
 |_=>False
theorem aP(eK:X.K=Z.K:=by rfl):dU X (.builtin "len") (kd Z AO):=by
 refine vQ.imp ?_;rintro xs H Q ⟨G,ds,P,s,dv,hr,q⟩;unfold AO at hr
 split at hr
 ·obtain ⟨_,rfl,a⟩:=dv.ofOne
  obtain ⟨_,_,rfl,h,e⟩:=a.iL;exact ⟨_,_,rfl, .inl (cp.of (s _ _ h)),by rw [e.length];exact q _ hr _ G H (.refl s) (.int _)⟩
 ·obtain ⟨_,rfl,a⟩:=dv.ofOne
  obtain ⟨_,_,rfl,h,e⟩:=a.uE;exact ⟨_,_,rfl, .inr (fR.of (s _ _ h)),by rw [e.length];exact q _ hr _ G H (.refl s) (.int _)⟩
 ·obtain ⟨_,rfl,a⟩:=dv.ofOne
  obtain ⟨_,rfl,h,_⟩:=a.IK;exact ⟨_,_,rfl, .inl (by rw [eK];exact h.mono s),by rw [aK];exact q _ hr _ G H (.refl s) (.int _)⟩
 ·exact hr.elim
def Hc:dD:=λds P=>match ds with
 | [.lst l]=>P (.lst l)
 | [.tup l]=>P (.lst l)
 |_=>False
theorem oZ:dU X (.type "list") (kd Z Hc):=by
 refine vS.imp ?_;rintro xs H Q ⟨G,ds,P,s,dv,hr,q⟩;unfold Hc at hr
 split at hr
 ·obtain ⟨_,rfl,a⟩:=dv.ofOne
  obtain ⟨_,_,rfl,h,e⟩:=a.iL;exact ⟨_,_,rfl, .inl (cp.of (s _ _ h)),λp hn=>q _ hr _ _ _ (.new s hn) (.lst ax (e.mono (aQ (s.free hn) _)))⟩
 ·obtain ⟨_,rfl,a⟩:=dv.ofOne
  obtain ⟨_,_,rfl,h,e⟩:=a.uE;exact ⟨_,_,rfl, .inr (fR.of (s _ _ h)),λp hn=>q _ hr _ _ _ (.new s hn) (.lst ax (e.mono (aQ (s.free hn) _)))⟩
 ·exact hr.elim
def aaa:dD:=λds P=>match ds with
 | [.int i]=>P (.int i)
 | [.bl b]=>P (.int (if b then 1 else 0))
 |_=>False
def Sw:String→D→Bool
 |"int", .int _=>true
 |"int", .bl _=>true
 |"bool", .bl _=>true
 |"list", .lst _=>true
 |"tuple", .tup _=>true
 |_,_=>false
def OZ(n:String):Bool:=n=="int"||n=="bool"||n=="list"||n=="tuple"
def MM:D→Bool
 | .bf=>true
 | .bl _=>true
 | .int _=>true
 | .str _=>true
 | .lst _=>true
 | .tup _=>true
 |_=>false
def QX(n:String)(t:aT):aT:=λρ P=>t ρ λd=>MM d=true∧P (.bl (Sw n d))
theorem KQ{K:PySem.W.Frag}{H:Hp}{v:V}{d:D}{n:String}(hn:OZ n=true)(hd:MM d=true)(h:Dv Z H v d):∃t,i6 K H v t∧PySem.W.kitOne K t (.type n)=some (Sw n d):=by
 unfold OZ at hn;rw [Bool.or_eq_true,Bool.or_eq_true,Bool.or_eq_true,beq_iff_eq,beq_iff_eq,beq_iff_eq,beq_iff_eq] at hn;cases h with
 |bf=>refine ⟨_, .bf,?_⟩;rcases hn with ((rfl|rfl) |rfl) |rfl<;>kernel_rfl
 |bl b=>refine ⟨_, .bl b,?_⟩;rcases hn with ((rfl|rfl) |rfl) |rfl<;>kernel_rfl
 |int b=>refine ⟨_, .int b,?_⟩;rcases hn with ((rfl|rfl) |rfl) |rfl<;>kernel_rfl
 |str b=>refine ⟨_, .str b,?_⟩;rcases hn with ((rfl|rfl) |rfl) |rfl<;>kernel_rfl
 |lst h a=>refine ⟨_, .lst h,?_⟩;rcases hn with ((rfl|rfl) |rfl) |rfl<;>kernel_rfl
 |tup h a=>refine ⟨_, .tup h,?_⟩;rcases hn with ((rfl|rfl) |rfl) |rfl<;>kernel_rfl
 |_=>cases hd
end
section
variable {Z:DC} {X:Cx} {a b c e:Expr} {ta tb tc te:aT} {pos:Pos}
theorem EA(n:String){x:Str}{p p':Pos}(ha:DE Z X a ta)(hg:Gl X "isinstance")(hm:X.mg "isinstance"=none)(Xz:Gl X x)(FV:X.mg x=none)(hv:bootBuiltins x=some (.type n))(ok:OZ n=true:=by decide)
  (hn:x≠"__name__":=by decide) (hd:(x==("__debug__":Str))=false:=by decide) (hs:starEach [a, .Name x p'] X.env=(false,eval a X.env)::starEach [.Name x p'] X.env:=by rfl)
  (eU:(backTo pos (starEach [.Name x p'] X.env)).any (·.1)=false:=by rfl) (iI:starEach [.Name x p'] X.env=(false,eval (.Name x p') X.env)::starEach [] X.env:=by rfl):
  DE Z X (.Call (.Name "isinstance" p) [a, .Name x p'] [] pos) (QX n ta):=by
 have hb:PE X (.Name x p') (tC (.ty n)):=IU Xz FV hv rfl hn hd;refine (xc yM hg hm (by decide+kernel) (dO ha (dO hb ig iI) hs) (by decide) (by decide) hs eU).imp ?_
 rintro σ H Q ⟨G,ρ,P,s,e,h,q⟩;refine ⟨G,ρ,_,s,e,h,?_⟩;rintro d ⟨hk,hp⟩ v G1 H1 x1 dv;obtain ⟨t,ht,jF⟩:=KQ (K:=X.K) (H:=H1) ok hk (dv.mono x1.sub);exact ⟨v,n,t,_,rfl,ht,jF,q _ hp _ G1 H1 x1 (.bl _)⟩
def lX(Z:DC)(g:di):TG:=λv σ H Q=>∃(G:Hp)(ρ:DN)(d:D)(P:DN→Prop),aH G H∧cL Z G σ ρ∧Dv Z G v d∧g d ρ P∧∀aA,P aA→∀aw,cL Z G aw aA→Q aw H
def DG(Z:DC)(X:Cx)(e:Expr)(g:di):Prop:=PG X e (lX Z g)
theorem PG.imp{e:Expr}{t t':TG}(h:PG X e t)(f:∀v σ H Q,t' v σ H Q→t v σ H Q):PG X e t':=λpins s σ H v u Q I r q=>h pins s σ H v u Q I r (f _ _ _ _ q)
def tu(i:Nat):di:=λd ρ P=>P (ρ.set i (some d))
theorem cD(i:Nat){x:Str}(hN:X.N.Nodup)(hi:X.N[i]? =some x:=by rfl)(hx:Loc X.env.scope x:=by exact Or.inl rfl)(hf:X.fn x=true∨X.env.scope.names.lookup x=some .local:=by first|exact .inl rfl|exact .inr rfl|assumption):DG Z X (.Name x pos) (tu i):=
 (BK hN hi hx hf).imp λv σ H Q ⟨G,ρ,d,P,s,e,dv,h,q⟩=>q _ h _ (e.set dv)
abbrev kG:=List D→DN→(DN→Prop)→Prop
def KY(Z:DC)(g:kG):vP:=λvs σ H Q=>∃(G:Hp)(ρ:DN)(ds:List D)(P:DN→Prop),aH G H∧cL Z G σ ρ∧ar Z G vs ds∧g ds ρ P∧∀aA,P aA→∀aw,cL Z G aw aA→Q aw H
def J3(Z:DC)(X:Cx)(es:List Expr)(g:kG):Prop:=yI X es (KY Z g)
theorem yI.imp{es:List Expr}{t t':vP}(h:yI X es t)(f:∀v σ H Q,t' v σ H Q→t v σ H Q):yI X es t':=λpins s σ H v u Q I r q=>h pins s σ H v u Q I r (f _ _ _ _ q)
def Hx:kG:=λds ρ P=>ds= []∧P ρ
def EC(g:di)(gs:kG):kG:=λds ρ P=>match ds with
 |d::r=>g d ρ λaA=>gs r aA P
 | []=>False
theorem Hz:J3 Z X [] Hx:=BL.imp λv σ H Q ⟨G,ρ,ds,P,s,e,dv,⟨h,p⟩,q⟩=>by
 subst h;cases dv;exact ⟨rfl,q _ p _ e⟩
theorem wA{es:List Expr}{g:di}{gs:kG}(h1:DG Z X e g)(h2:J3 Z X es gs)(hs:(assignEach (e::es) X.env).map (·.2)=assign e X.env::(assignEach es X.env).map (·.2):=by rfl):J3 Z X (e::es) (EC g gs):=by
 refine (xg h1 h2 hs).imp ?_;rintro v σ H Q ⟨G,ρ,ds,P,s,e,dv,h,q⟩;cases dv with
 |nil=>exact h.elim
 |cons a as=>
  refine ⟨_,_,rfl,G,ρ,_,_,s,e,a,h,λaA hp aw e'=>?_⟩;exact ⟨G,aA,_,P,s,e',as,hp,q⟩
def Hy(n:Nat)(gs:kG):di:=λd ρ P=>match d with
 | .tup l=>l.length=n∧gs l ρ P
 |_=>False
theorem Kh(n:Nat){es:List Expr}{k:Nat}{gs:kG}(hc:X.calm=true)(h:J3 Z X es gs)(hn:(assignEach es X.env).length=n:=by rfl)(jG:(assignEach es X.env).findIdx? (·.1)=none:=by rfl):DG Z X (.Tuple es k pos) (Hy n gs):=by
 refine (E8 hc h hn jG).imp ?_;rintro v σ H Q ⟨G,ρ,d,P,s,e,dv,h,q⟩;cases dv<;>first|exact h.elim|skip
 rename_i a xs ds ha es
 exact ⟨a,xs,rfl,fR.of (s _ _ ha),by rw [es.length];exact h.1,G,ρ,_,P,s,e,es,h.2,q⟩
def tJ(Z:DC)(G:Hp)(J:It)(ds:List D):Prop:=∀G2 H2,aH G G2→aH G2 H2→∀i:Nat,(i<ds.length→J.go i H2)∧(ds.length≤i→J.stop i H2)∧
 ∀x H',i<ds.length→J.yld i H2 x H'→∃G3 d,Ext G2 H2 G3 H'∧ds[i]? =some d∧Dv Z G3 x d
def oJ(Z:DC)(wi:gy):TI:=λσ H R=>∃(G:Hp)(ρ:DN)(P:List D→Prop),aH G H∧cL Z G σ ρ∧wi ρ P∧∀ds,P ds→∀J G' H',Ext G H G' H'→tJ Z G' J ds→R J H'
def DI(Z:DC)(X:Cx)(tg e:Expr)(wi:gy):Prop:=PI X tg e (oJ Z wi)
theorem PI.imp{tg e:Expr}{t t':TI}(h:PI X tg e t)(f:∀σ H Q,t' σ H Q→t σ H Q):PI X tg e t':=λpins s σ H Q I q=>h pins s σ H Q I (f _ _ _ q)
def NM(t:aT):gy:=λρ P=>t ρ λd=>match d with
 | .lst l=>P l
 |_=>False
theorem Im{K:PySem.W.Frag}{G:Hp}{a:Addr}{xs:List V}{ds:List D}(h:G a=some (.lst xs))(e:ar Z G xs ds):tJ Z G (M5 K a) ds:=by
 intro G2 H2 s1 s2 i;have h2:=cp.of (K:=K) (s2 _ _ (s1 _ _ h));have l:=e.length;refine ⟨λhi=>⟨xs,xs[i],h2,bA (by omega)⟩,λhi=>⟨xs,h2,by omega⟩,?_⟩
 rintro x H' hi ⟨rfl,hx⟩;obtain ⟨d,hd,dv⟩:=e.EK (hx _ h2);exact ⟨G2,d, .refl s2,hd,dv.mono s1⟩
theorem cE{tg:Expr}(h:DE Z X e te):DI Z X tg e (NM te):=by
 refine (Jg h).imp ?_;rintro σ H Q ⟨G,ρ,P,s,en,h,q⟩;refine ⟨G,ρ,_,s,en,h,λd hd v G1 H1 x1 dv=>?_⟩;cases dv<;>first|exact hd.elim|skip
 rename_i ha e
 exact ⟨_,rfl,⟨_,cp.of (x1.sub _ _ ha)⟩,q _ hd _ G1 H1 x1 (Im ha e)⟩
def eY(lo:Int)(n:Nat):List D:=(List.range n).map λ(k:Nat)=>D.int (lo+(k:Int))
theorem rW{lo:Int}{n i:Nat}(h:i<n):(eY lo n)[i]? =some (.int (lo+i)):=by
 unfold eY;rw [fc,AD h];rfl
theorem qO{G:Hp}(lo:Int)(n:Nat):tJ Z G (GQ lo n) (eY lo n):=by
 intro G2 H2 s1 s2 i;have l:(eY lo n).length=n:=by unfold eY;simp
 rw [l];refine ⟨λhi=>hi,λhi=>hi,?_⟩;rintro x H' hi ⟨rfl,rfl⟩;exact ⟨G2,_, .refl s2,rW hi, .int _⟩
def Ms(t:iC):gy:=λρ P=>t ρ λds=>match ds with
 | [.int j]=>(-(2^62)≤j∧j<2^62)∧P (eY 0 j.toNat)
 |_=>False
def Ry(t:iC):gy:=λρ P=>t ρ λds=>match ds with
 | [.int i, .int j]=>(-(2^62)≤i∧i<2^62∧-(2^62)≤j∧j<2^62)∧P (eY i (j-i).toNat)
 |_=>False
variable {t:iC}
theorem om{tg:Expr}{p:Pos}(hg:Gl X "range")(hm:X.mg "range"=none)(ha:DA Z X [a] t)(hs:starEach [a] X.env= [(false,eval a X.env)]:=by rfl):DI Z X tg (.Call (.Name "range" p) [a] [] pos) (Ms t):=by
 refine (uO hg hm ha hs).imp ?_;rintro σ H Q ⟨G,ρ,P,s,en,h,q⟩;refine ⟨G,ρ,_,s,en,h,λds hd vs G1 H1 x1 dv=>?_⟩
 split at hd
 ·obtain ⟨_,rfl,a⟩:=dv.ofOne
  exact ⟨_,by rw [a.ofInt],hd.1.1,hd.1.2,q _ hd.2 _ G1 H1 x1 (qO 0 _)⟩
 ·exact hd.elim
def jl(l:List D):List D:=l.mapIdx λi x=> .tup [.int (i:Int),x]
def Ki(t:iC):gy:=λρ P=>t ρ λds=>match ds with
 | [.lst l]=>P (jl l)
 |_=>False
theorem Ik{K:PySem.W.Frag}{G:Hp}{a:Addr}{xs:List V}{ds:List D}(h:G a=some (.lst xs))(e:ar Z G xs ds):tJ Z G (M4 K a) (jl ds):=by
 intro G2 H2 s1 s2 i;have h2:=cp.of (K:=K) (s2 _ _ (s1 _ _ h));have l:=e.length;rw [show (jl ds).length=ds.length by unfold jl;simp]
 refine ⟨λhi=>⟨xs,xs[i],h2,bA (by omega)⟩,λhi=>⟨xs,h2,by omega⟩,?_⟩
 rintro x H' hi ⟨t,y,rfl,ht,rfl,hx⟩;obtain ⟨d,hd,dv⟩:=e.EK (hx _ h2);refine ⟨_,_, .new s2 ht,by unfold jl;rw [List.getElem?_mapIdx,hd];rfl,?_⟩
 exact .tup ax (.cons (.int _) (.cons ((dv.mono s1).mono (aQ (s2.free ht) _)) .nil))
theorem iG{p:Pos}{es:List Expr}{k1}{tp:Pos}(hg:Gl X "enumerate")(hm:X.mg "enumerate"=none)(ha:DA Z X [a] t)(hs:starEach [a] X.env= [(false,eval a X.env)]:=by rfl):DI Z X (.Tuple es k1 tp) (.Call (.Name "enumerate" p) [a] [] pos) (Ki t):=by
 refine (Jf hg hm ha hs).imp ?_;rintro σ H Q ⟨G,ρ,P,s,en,h,q⟩;refine ⟨G,ρ,_,s,en,h,λds hd vs G1 H1 x1 dv=>?_⟩
 split at hd
 ·obtain ⟨_,rfl,a⟩:=dv.ofOne
  obtain ⟨_,_,rfl,h,e⟩:=a.iL;exact ⟨_,rfl,⟨_,x1.sub _ _ h⟩,q _ hd _ G1 H1 x1 (Ik h e)⟩
 ·exact hd.elim
def u4(src:List (Option Nat))(ρ:DN):DN:=src.map λo=>o.bind λi=>(ρ[i]?).bind id
theorem cL.src{G:Hp}{σ:St}{ρ:DN}(e:cL Z G σ ρ)(src:List (Option Nat)):cL Z G (kO src σ) (u4 src ρ):=by
 refine ⟨by unfold kO u4;simp,λi d h=>?_⟩
 unfold u4 at h;unfold kO;rw [fc] at h ⊢;cases k:src[i]? with
 |none=>rw [k] at h;cases h
 |some o=>
  rw [k] at h;cases o with
  |none=>cases h
  |some j=>
   have h':(ρ[j]?).bind id=some d:=Option.some.inj h;cases m:ρ[j]? with
   |none=>rw [m] at h';cases h'
   |some z=>
    rw [m] at h';have h2:z=some d:=h';subst h2;obtain ⟨v,hv,dv⟩:=e.at_ j d m;exact ⟨v,by show some ((σ[j]?).bind id)=_;rw [hv];rfl,dv⟩
def lcW(g:di)(tt:cU)(te:aT):List D→DN→List D→(DN→List D→Prop)→Prop
 | [],ρ,acc,N=>N ρ acc
 |x::xs,ρ,acc,N=>g x ρ λaU=>tt aU λb=>if b=true then te aU λd=>acc.length<sizeLine∧lcW g tt te xs aU (acc++ [d]) N else lcW g tt te xs aU acc N
def Ny(wi:gy)(g:di)(tt:cU)(te:aT)(src:List (Option Nat)):aT:=λρ P=>wi ρ λds=>lcW g tt te ds (u4 src ρ) [] λ_ out=>P (.lst out)
def g7(g:di)(tt:cU)(cH:gy)(g1:di)(cg:cU)(te:aT):List D→DN→List D→(List D→Prop)→Prop
 | [],_,acc,P=>P acc
 |x::xs,ρ,acc,P=>g x ρ λaU=>tt aU λb=>if b=true then cH aU λes=>lcW g1 cg te es aU acc λcq jB=>g7 g tt cH g1 cg te xs cq jB P else g7 g tt cH g1 cg te xs aU acc P
def Mp(wi:gy)(g:di)(tt:cU)(cH:gy)(g1:di)(cg:cU)(te:aT)(src:List (Option Nat)):aT:=λρ P=>wi ρ λds=>g7 g tt cH g1 cg te ds (u4 src ρ) [] λout=>P (.lst out)
def nO:cU:=λ_ P=>P true
def vN(Z:DC)(X:Cx)(ifs:List Expr)(t:cU):Prop:=lE X ifs (liftT Z t)
theorem lE.imp{ifs:List Expr}{t t':TT}(h:lE X ifs t)(f:∀σ H Q,t' σ H Q→t σ H Q):lE X ifs t':=λpins s σ H Q I q=>h pins s σ H Q I (f _ _ _ q)
theorem fm:vN Z X [] nO:=Jn.imp λσ H Q ⟨G,ρ,P,s,e,p,q⟩=>q _ p G H (.refl s)
theorem pA{tA:cU}(h:DT Z X c tA):vN Z X [c] tA:=Jo h
def CS(Z:DC)(G1 H1:Hp)(Ad:Addr)(ρ:DN)(acc:List D)(σ:St)(H:Hp):Prop:=
 ∃(G:Hp)(ys:List V),aH G1 G∧aH G H∧aH H1 H∧(∀b,H1 b≠none→G1 b=none→G b=none)∧G Ad=none∧H Ad=some (.lst ys)∧ar Z G ys acc∧cL Z G σ ρ
theorem dQ{H H':Hp}(s:aH H H'){b:Addr}(h:H b≠none):H' b≠none:=λz=>by
 cases e:H b with
 |none=>exact h e
 |some o=>rw [s b o e] at z;cases z
theorem jD{α:Type}{l:List α}{i:Nat}{x:α}(h:l[i]? =some x):l.drop i=x::l.drop (i+1):=by
 obtain ⟨hi,e⟩:=eO.mp h;rw [qv hi,e]
theorem wY{G1 H1:Hp}{Ad:Addr}{J:It}{ds:List D}{g:di}{tt:cU}{te:aT}{N:DN→List D→Prop}(hA:H1 Ad=none)(G0:Hp)(it:tJ Z G0 J ds)(i:Nat)(ρ:DN)(acc:List D)(σ:St)(H:Hp)
  (c:CS Z G1 H1 Ad ρ acc σ H) (hG:∀G,aH G1 G→aH G0 G) (hi:i<ds.length) (h:lcW g tt te (ds.drop i) ρ acc N):
  J.go i H∧∀x H3,J.yld i H x H3→lX Z g x σ H3 λeF H4=>liftT Z tt eF H4 λb H5=>
   if b=true then cX Z te eF H5 λv H6=>∃ys,H6 Ad=some (.lst ys)∧ys.length<sizeLine∧(∃aA bV,CS Z G1 H1 Ad aA bV eF (upd H6 Ad (.lst (ys++ [v])))∧lcW g tt te (ds.drop (i+1)) aA bV N)
   else ∃aA bV,CS Z G1 H1 Ad aA bV eF H5∧lcW g tt te (ds.drop (i+1)) aA bV N:=by
 obtain ⟨G2,ys,s1,s2,s3,off,gA,j6,bo,en⟩:=c;obtain ⟨go,_,yld⟩:=it G2 H (hG _ s1) s2 i;refine ⟨go hi,λx H3 y=>?_⟩;obtain ⟨G3,d,x3,hd,dv⟩:=yld x H3 hi y;rw [jD hd] at h;refine ⟨G3,ρ,d,_,x3.sub,en.mono x3.gg,dv,h,λaU h1 eF pC=>?_⟩;refine ⟨G3,aU,_,x3.sub,pC,h1,λb hb G5 H5 x5=>?_⟩;have gM:=x3.trans x5;have pU:∀{G jY:Hp},Ext G2 H G jY→G Ad=none:=λx=>x.off Ad (by rw [j6];exact λz=>nomatch z) gA
 have jN:∀{G jY:Hp},Ext G2 H G jY→∀b,H1 b≠none→G1 b=none→G b=none:=λx b h1 h2=>x.off b (dQ s3 h1) (off b h1 h2);cases b with
 |false=>
  refine cF ⟨aU,acc,⟨G5,ys,s1.trans gM.gg,gM.sub,s3.trans gM.hh,jN gM,pU gM,gM.hh _ _ j6,bo.mono gM.gg,pC.mono x5.gg⟩,?_⟩;simpa using hb
 |true=>
  refine cM ⟨G5,aU,_,x5.sub,pC.mono x5.gg,(by simpa using hb),λd' nE v G6 H6 x6 W4=>?_⟩
  have x:=gM.trans x6;refine ⟨ys,x.hh _ _ j6,by rw [bo.length];exact nE.1,aU,_,⟨G6,ys++ [v],s1.trans x.gg,λb o e=>?_,λb o e=>?_,jN x,pU x,ax,(bo.mono x.gg).snoc W4,(pC.mono x5.gg).mono x6.gg⟩,nE.2⟩
  ·rw [aF (aW e (pU x))];exact x.sub _ _ e
  ·rw [aF (aW e hA)];exact (s3.trans x.hh) _ _ e
theorem CS.done{G H G1 H1 H2:Hp}{Ad:Addr}{ρ:DN}{acc:List D}{σ:St}(c:CS Z G1 H1 Ad ρ acc σ H2)(x1:Ext G H G1 H1)(hA:H1 Ad=none):∃G',Ext G H G' H2∧Dv Z G' (.ref Ad) (.lst acc):=by
 obtain ⟨G2,ys,s1,s2,s3,off,gA,j6,bo,en⟩:=c;refine ⟨upd G2 Ad (.lst ys),⟨(x1.gg.trans s1).trans (aQ gA _),λb o e=>?_,x1.hh.trans s3,λb hb hg=>?_⟩, .lst ax (bo.mono (aQ gA _))⟩
 ·by_cases z:b=Ad
  ·subst z;rw [ax] at e;cases e;exact j6
  ·rw [aF z] at e;exact s2 _ _ e
 ·have h1:=dQ x1.hh hb
  rw [aF (λz=>h1 (by rw [z];exact hA))]
  exact off b h1 (x1.off b hb hg)
theorem CS.begin{G1 H1:Hp}{Ad:Addr}{ρ:DN}{σ:St}(s:aH G1 H1)(hA:H1 Ad=none)(en:cL Z G1 σ ρ):CS Z G1 H1 Ad ρ [] σ (upd H1 Ad (.lst [])):=
 ⟨G1,[], .refl _,λb o e=>by rw [aF (aW e (s.free hA))];exact s _ _ e,aQ hA _,λ_ _ h=>h,s.free hA,ax, .nil,en⟩
variable {tg iter elt:Expr} {ifs:List Expr} {scope:Scope} {NC:List Str} {src:List (Option Nat)} {wi:gy} {g:di} {tt:cU}
theorem ER:∀σ H Q,cX Z (Ny wi g tt te src) σ H Q→LM (oJ Z wi) (lX Z g) (liftT Z tt) (cX Z te) src σ H Q:=by
 rintro σ H Q ⟨G,ρ,P,s,en,h,q⟩;refine ⟨G,ρ,_,s,en,h,λds hd J G1 H1 x1 it Ad hA=>?_⟩;refine ⟨λi m dY H2=>m=ds.length-i∧i≤ds.length∧∃cq acc,CS Z G1 H1 Ad cq acc dY H2∧lcW g tt te (ds.drop i) cq acc λ_ out=>P (.lst out),⟨_,rfl,cw _,_,[], .begin x1.sub hA ((en.mono x1.gg).src src),hd⟩,?_⟩;rintro i m dY H2 ⟨rfl,hi,cq,acc,c,hl⟩
 by_cases bN:i<ds.length
 ·obtain ⟨go,turn⟩:=wY hA G1 it i cq acc dY H2 c (λ_ s=>s) bN hl
  exact .inr ⟨go,_,λaw H' n=>⟨ds.length-(i+1),by omega,rfl,bN,n⟩,turn⟩
 ·have e:ds.drop i= []:=vB (by omega)
  rw [e] at hl;obtain ⟨G',x,dv⟩:=c.done x1 hA;obtain ⟨G2,ys,s1,s2,_⟩:=c;exact .inl ⟨(it G2 H2 s1 s2 i).2.1 (by omega),q _ hl _ G' H2 x dv⟩
theorem t5(hc:X.calm=true)(c:bY X scope)(dZ:cP scope X.N src NC)(hi:DI Z X tg iter wi)
  (hg:∀ex s H,DG Z (cc X scope NC ex s H) tg g) (ht:∀ex s H,vN Z (cc X scope NC ex s H) ifs tt) (he:∀ex s H,DE Z (cc X scope NC ex s H) elt te)
  (hs:∀x,foldedSetIterable iter X.env x=pure x:=by intro _;rfl):DE Z X (.ListComp elt [⟨tg,iter,ifs,0⟩] scope pos) (Ny wi g tt te src):=(I0 hc c dZ hi hg ht he hs).imp ER
variable {t0 i0 t1 i1:Expr} {f0 f1:List Expr} {cH:gy} {g1:di} {cg:cU}
theorem Iz:∀σ H Q,cX Z (Mp wi g tt cH g1 cg te src) σ H Q→JQ (oJ Z wi) (lX Z g) (liftT Z tt) (oJ Z cH) (lX Z g1) (liftT Z cg) (cX Z te) src σ H Q:=by
 rintro σ H Q ⟨G,ρ,P,s,en,h,q⟩;refine ⟨G,ρ,_,s,en,h,λds hd J G1 H1 x1 it Ad hA=>?_⟩;refine ⟨λi m dY H2=>m=ds.length-i∧i≤ds.length∧∃cq acc,CS Z G1 H1 Ad cq acc dY H2∧g7 g tt cH g1 cg te (ds.drop i) cq acc λout=>P (.lst out),⟨_,rfl,cw _,_,[], .begin x1.sub hA ((en.mono x1.gg).src src),hd⟩,?_⟩;rintro i m dY H2 ⟨rfl,hi,cq,acc,c,hl⟩
 by_cases bN:i<ds.length
 ·have c0:=c
  obtain ⟨G2,ys,s1,s2,s3,off,gA,j6,bo,NS⟩:=c;obtain ⟨go,_,yld⟩:=it G2 H2 s1 s2 i;refine .inr ⟨go bN,λaw H'=>∃aA bV,CS Z G1 H1 Ad aA bV aw H'∧g7 g tt cH g1 cg te (ds.drop (i+1)) aA bV λout=>P (.lst out),λaw H' n=>⟨ds.length-(i+1),by omega,rfl,bN,n⟩,λx H3 y=>?_⟩
  obtain ⟨G3,d,x3,HV,dv⟩:=yld x H3 bN y;rw [jD HV] at hl;refine ⟨G3,cq,d,_,x3.sub,NS.mono x3.gg,dv,hl,λaU h1 eF pC=>?_⟩;refine ⟨G3,aU,_,x3.sub,pC,h1,λb hb G5 H5 x5=>?_⟩;have gM:=x3.trans x5;have pU:∀{G jY:Hp},Ext G2 H2 G jY→G Ad=none:=λx=>x.off Ad (by rw [j6];exact λz=>nomatch z) gA
  have jN:∀{G jY:Hp},Ext G2 H2 G jY→∀b,H1 b≠none→G1 b=none→G b=none:=λx b h1 h2=>x.off b (dQ s3 h1) (off b h1 h2);cases b with
  |false=>exact cF ⟨aU,acc,⟨G5,ys,s1.trans gM.gg,gM.sub,s3.trans gM.hh,jN gM,pU gM,gM.hh _ _ j6,bo.mono gM.gg,pC.mono x5.gg⟩,by simpa using hb⟩
  |true=>
   refine cM ⟨G5,aU,_,x5.sub,pC.mono x5.gg,(by simpa using hb),λes Oq J1 G6 H6 x6 Bv=>?_⟩
   have x:=gM.trans x6;have c6:CS Z G6 H6 Ad aU acc eF H6→True:=λ_=>trivial
   refine ⟨λk m mS H7=>m=es.length-k∧k≤es.length∧∃(vM:DN)(lG:List D),(∃(G:Hp)(ys:List V),aH G6 G∧aH G H7∧aH H1 H7∧(∀b,H1 b≠none→G1 b=none→G b=none)∧G Ad=none∧H7 Ad=some (.lst ys)∧ar Z G ys lG∧cL Z G mS vM)∧
    lcW g1 cg te (es.drop k) vM lG λcq jB=>g7 g tt cH g1 cg te (ds.drop (i+1)) cq jB λout=>P (.lst out),
    ⟨_,rfl,cw _,aU,acc,⟨G6,ys, .refl _,x.sub,s3.trans x.hh,jN x,pU x,x.hh _ _ j6,bo.mono x.gg,(pC.mono x5.gg).mono x6.gg⟩,Oq⟩,?_⟩
   rintro k m mS H7 ⟨rfl,hk,vM,lG,⟨G7,Av,a1,a2,a3,a4,a5,a6,a7,a8⟩,zd⟩;have NZ:aH G1 G6:=s1.trans x.gg
   by_cases uh:k<es.length
   ·obtain ⟨N3,_,J0⟩:=Bv G7 H7 a1 a2 k
    refine .inr ⟨N3 uh,λaw H'=>∃(aA:DN)(bV:List D),(∃(G:Hp)(ys:List V),aH G6 G∧aH G H'∧aH H1 H'∧(∀b,H1 b≠none→G1 b=none→G b=none)∧G Ad=none∧H' Ad=some (.lst ys)∧ar Z G ys bV∧cL Z G aw aA)∧
     lcW g1 cg te (es.drop (k+1)) aA bV λcq jB=>g7 g tt cH g1 cg te (ds.drop (i+1)) cq jB λout=>P (.lst out),λaw H' n=>⟨es.length-(k+1),by omega,rfl,uh,n⟩,λy H8 hy=>?_⟩
    obtain ⟨G8,d8,x8,Ol,NN⟩:=J0 y H8 uh hy;rw [jD Ol] at zd;refine ⟨G8,vM,d8,_,x8.sub,a8.mono x8.gg,NN,zd,λAG h9 σ9 y1=>?_⟩;refine ⟨G8,AG,_,x8.sub,y1,h9,λb hb GK GL vt=>?_⟩;have xx:=x8.trans vt;have oA:∀{G jY:Hp},Ext G7 H7 G jY→G Ad=none:=λx=>x.off Ad (by rw [a6];exact λz=>nomatch z) a5
    have oB:∀{G jY:Hp},Ext G7 H7 G jY→∀b,H1 b≠none→G1 b=none→G b=none:=λx b h1 h2=>x.off b (dQ a3 h1) (a4 b h1 h2);cases b with
    |false=>exact cF ⟨AG,lG,⟨GK,Av,a1.trans xx.gg,xx.sub,a3.trans xx.hh,oB xx,oA xx,xx.hh _ _ a6,a7.mono xx.gg,y1.mono vt.gg⟩,by simpa using hb⟩
    |true=>
     refine cM ⟨GK,AG,_,vt.sub,y1.mono vt.gg,(by simpa using hb),λd' nE v M1 J4 JY HE=>?_⟩
     have xz:=xx.trans JY;refine ⟨Av,xz.hh _ _ a6,by rw [a7.length];exact nE.1,AG,_,⟨M1,Av++ [v],a1.trans xz.gg,λb o e=>?_,λb o e=>?_,oB xz,oA xz,ax,(a7.mono xz.gg).snoc HE,(y1.mono vt.gg).mono JY.gg⟩,nE.2⟩
     ·rw [aF (aW e (oA xz))];exact xz.sub _ _ e
     ·rw [aF (aW e hA)];exact (a3.trans xz.hh) _ _ e
   ·have e:es.drop k= []:=vB (by omega)
    rw [e] at zd;exact .inl ⟨(Bv G7 H7 a1 a2 k).2.1 (by omega),vM,lG,⟨G7,Av,NZ.trans a1,a2,a3,a4,a5,a6,a7,a8⟩,zd⟩
 ·have e:ds.drop i= []:=vB (by omega)
  rw [e] at hl;obtain ⟨G',x,dv⟩:=c.done x1 hA;obtain ⟨G2,ys,s1,s2,_⟩:=c;exact .inl ⟨(it G2 H2 s1 s2 i).2.1 (by omega),q _ hl _ G' H2 x dv⟩
end
inductive f7 (R:V→D→List Addr→Prop):List V→List D→List Addr→Prop
 |nil:f7 R [] [] []
 |cons {v:V} {vs:List V} {d:D} {ds:List D} {f fs:List Addr}:R v d f→f7 R vs ds fs→f7 R (v::vs) (d::ds) (f++fs)
def KH:D→Bool
 | .lst _=>true
 |_=>false
def Own(Z:DC)(G H:Hp):Nat→V→D→List Addr→Prop
 |0,v,d,fp=>Dv Z G v d∧fp= []
 |n+1,v,d,fp=>(∃a xs ds pF,v= .ref a∧d= .lst ds∧H a=some (.lst xs)∧fp=a::pF∧f7 (Own Z G H n) xs ds pF)∨(1≤n∧∃a xs ds,v= .ref a∧d= .tup ds∧G a=some (.tup xs)∧f7 (λv d f=>(KH d=true∧Own Z G H n v d f)∨(KH d=false∧Dv Z G v d∧f= [])) xs ds fp)∨(n=98∧∃a b ns,v= .ref a∧d= .set b ns∧H a=some (.ext (e8 b a ns))∧fp= [a])
theorem Own.lst{Z:DC}{G H:Hp}{n:Nat}{v:V}{ds:List D}{fp:List Addr}(o:Own Z G H (n+1) v (.lst ds) fp):∃a xs pj pF,v= .ref a∧D.lst ds= .lst pj∧H a=some (.lst xs)∧fp=a::pF∧f7 (Own Z G H n) xs pj pF:=by
 rcases o with o| ⟨_,a,xs,ds,_,e,_⟩ | ⟨_,a,b,ns,_,e,_⟩
 ·exact o
 ·cases e
 ·cases e
theorem Own.MT{Z:DC}{G H:Hp}{v:V}{b:Bool}{ns:List Int}{fp:List Addr}(o:Own Z G H 99 v (.set b ns) fp):∃a,v= .ref a∧H a=some (.ext (e8 b a ns))∧fp= [a]:=by
 rcases o with ⟨_,_,_,_,_,e,_⟩ | ⟨_,a,xs,ds,_,e,_⟩ | ⟨_,a,b,ns,h1,e,h2,h3⟩
 ·cases e
 ·cases e
 ·cases e;exact ⟨a,h1,h2,h3⟩
theorem Own.one{Z:DC}{G H:Hp}{v:V}{d:D}{fp:List Addr}(o:Own Z G H 1 v d fp):∃a xs ds pF,v= .ref a∧d= .lst ds∧H a=some (.lst xs)∧fp=a::pF∧f7 (Own Z G H 0) xs ds pF:=by
 rcases o with o| ⟨z,_⟩ | ⟨z,_⟩
 ·exact o
 ·exact absurd z (by decide)
 ·exact absurd z (by decide)
theorem f7.imp{R R':V→D→List Addr→Prop}:∀{vs:List V}{ds:List D}{fp:List Addr},f7 R vs ds fp→(∀v d f,(∀b∈f,b∈fp)→R v d f→R' v d f)→f7 R' vs ds fp
 |_,_,_, .nil,_=> .nil
 |_,_,_, .cons a as,h=> .cons (h _ _ _ (λb hb=>fb _ hb) a) (as.imp λv d f hf r=>h v d f (λb hb=>fE _ (hf b hb)) r)
section
variable {Z:DC} {G G' H H':Hp}
theorem Own.keep:∀{n:Nat}{v:V}{d:D}{fp:List Addr},Own Z G H n v d fp→aH G G'→(∀b∈fp,H' b=H b)→Own Z G' H' n v d fp
 |0,_,_,_,⟨a,b⟩,s,_=>⟨a.mono s,b⟩
 |n+1,_,_,_, .inl ⟨a,xs,ds,pF,hv,hd,ha,hf,ho⟩,s,k=>by
  subst hf;exact .inl ⟨a,xs,ds,pF,hv,hd,by rw [k a (cB ..)];exact ha,rfl,ho.imp λv d f hb r=>Own.keep r s λb q=>k b (cI _ (hb b q))⟩
 |n+1,_,_,_, .inr (.inl ⟨h1,a,xs,ds,hv,hd,ha,ho⟩),s,k=> .inr (.inl ⟨h1,a,xs,ds,hv,hd,s _ _ ha,ho.imp λv d f hb r=>r.imp (λr=>⟨r.1,Own.keep r.2 s λb q=>k b (hb b q)⟩) λr=>⟨r.1,r.2.1.mono s,r.2.2⟩⟩)
 |n+1,_,_,_, .inr (.inr ⟨h1,a,b,ns,hv,hd,ha,hf⟩),s,k=> .inr (.inr ⟨h1,a,b,ns,hv,hd,by rw [k a (by rw [hf];exact cB ..)];exact ha,hf⟩)
theorem f7.A6{R:V→D→List Addr→Prop}:∀{vs:List V}{ds:List D}{fp:List Addr},f7 R vs ds fp→(∀v d f,(∀b∈f,b∈fp)→R v d f→Dv Z G' v d)→ar Z G' vs ds
 |_,_,_, .nil,_=> .nil
 |_,_,_, .cons a as,k=> .cons (k _ _ _ (λb hb=>fb _ hb) a) (as.A6 λv d f hf r=>k v d f (λb hb=>fE _ (hf b hb)) r)
theorem Own.dv:∀{n:Nat}{v:V}{d:D}{fp:List Addr},Own Z G H n v d fp→aH G G'→(∀b∈fp,∀o,H b=some o→G' b=some o)→Dv Z G' v d
 |0,_,_,_,⟨a,_⟩,s,_=>a.mono s
 |n+1,_,_,_, .inl ⟨a,xs,ds,pF,hv,hd,ha,hf,ho⟩,s,k=>by
  subst hf hv hd;exact .lst (k a (cB ..) _ ha) (ho.A6 λv d f hf r=>Own.dv r s λb hb=>k b (cI _ (hf b hb)))
 |n+1,_,_,_, .inr (.inl ⟨_,a,xs,ds,hv,hd,ha,ho⟩),s,k=>by
  subst hv hd;exact .tup (s _ _ ha) (ho.A6 λv d f hf r=>r.elim (λr=>Own.dv r.2 s λb hb=>k b (hf b hb)) λr=>r.2.1.mono s)
 |n+1,_,_,_, .inr (.inr ⟨_,a,b,ns,hv,hd,ha,hf⟩),s,k=>by
  subst hv hd hf;exact .set (k a (cB ..) _ ha)
theorem f7.flat:∀{vs:List V}{ds:List D}{fp:List Addr},f7 (Own Z G H 0) vs ds fp→ar Z G vs ds∧fp= []
 |_,_,_, .nil=>⟨.nil,rfl⟩
 |_,_,_, .cons a as=>by
  obtain ⟨h1,h2⟩:=as.flat;obtain ⟨a1,a2⟩:=a;exact ⟨.cons a1 h1,by rw [a2,h2];rfl⟩
theorem ar.own:∀{vs:List V}{ds:List D},ar Z G vs ds→f7 (Own Z G H 0) vs ds []
 |_,_, .nil=> .nil
 |_,_, .cons a as=> .cons (f:= []) (fs:= []) ⟨a,rfl⟩ as.own
theorem Dv.flat{v:V}{d:D}(h:Dv Z G v d)(f:fi d=true):Dv Z G' v d:=by
 cases h with
 |bf=>exact .bf
 |bl b=>exact .bl b
 |int i=>exact .int i
 |str x k=>exact .str x k
 |_=>cases f
end
mutual
def nF:D→Bool
 | .bf=>true
 | .bl _=>true
 | .int _=>true
 | .str _=>true
 | .tup l=>EW l
 |_=>false
def EW:List D→Bool
 | []=>true
 |d::ds=>nF d&&EW ds
end
mutual
theorem Dv.nF{Z:DC}{G G':Hp}(k:∀b xs,G b=some (.tup xs)→G' b=some (.tup xs)):∀{v:V}{d:D},Dv Z G v d→L2.nF d=true→Dv Z G' v d
 |_,_, .bf,_=> .bf
 |_,_, .bl b,_=> .bl b
 |_,_, .int i,_=> .int i
 |_,_, .str x h,_=> .str x h
 |_,_, .tup h a,f=> .tup (k _ _ h) (ar.nF k a (by rw [L2.nF] at f;exact f))
 |_,_, .lst _ _,f=>by simp [L2.nF] at f
 |_,_, .obj _,f=>by simp [L2.nF] at f
 |_,_, .rng _,f=>by simp [L2.nF] at f
 |_,_, .jW _ _,f=>by simp [L2.nF] at f
 |_,_, .eE _ _ _ _ _,f=>by simp [L2.nF] at f
 |_,_, .set _,f=>by simp [L2.nF] at f
theorem ar.nF{Z:DC}{G G':Hp}(k:∀b xs,G b=some (.tup xs)→G' b=some (.tup xs)):∀{vs:List V}{ds:List D},ar Z G vs ds→EW ds=true→ar Z G' vs ds
 |_,_, .nil,_=> .nil
 |_,_, .cons a as,f=>by
  rw [EW,vK] at f;exact .cons (Dv.nF k a f.1) (ar.nF k as f.2)
end
def MP:HO→Bool
 | .lst _=>true
 | .ext _=>true
 |_=>false
theorem Own.NO{Z:DC}{G G' H:Hp}:∀{n:Nat}{v:V}{d:D}{fp:List Addr},Own Z G H n v d fp→aH G G'→(∀b∈fp,∀o,MP o=true→H b=some o→G' b=some o)→Dv Z G' v d
 |0,_,_,_,⟨a,_⟩,s,_=>a.mono s
 |n+1,_,_,_, .inl ⟨a,xs,ds,pF,hv,hd,ha,hf,ho⟩,s,k=>by
  subst hf hv hd;exact .lst (k a (cB ..) _ rfl ha) (ho.A6 λv d f hf r=>Own.NO r s λb hb=>k b (cI _ (hf b hb)))
 |n+1,_,_,_, .inr (.inl ⟨_,a,xs,ds,hv,hd,ha,ho⟩),s,k=>by
  subst hv hd;exact .tup (s _ _ ha) (ho.A6 λv d f hf r=>r.elim (λr=>Own.NO r.2 s λb hb=>k b (hf b hb)) λr=>r.2.1.mono s)
 |n+1,_,_,_, .inr (.inr ⟨_,a,b,ns,hv,hd,ha,hf⟩),s,k=>by
  subst hv hd hf;exact .set (k a (cB ..) _ rfl ha)
structure Bs where
 G₀:Hp
 H₀:Hp
 Gf:Hp
structure SIx (Z:DC) (B:Bs) (md:List Nat) (ρ:DN) (σ:St) (H G:Hp) (fp:Nat→List Addr):Prop where
 ex:Ext B.G₀ B.H₀ G H
 fl:aH B.Gf G
 len:ρ.length=σ.length
 at_:∀(i:Nat)(d:D),ρ[i]? =some (some d)→∃v,σ[i]? =some (some v)∧Own Z G H (md.getD i 0) v d (fp i)
 nd:∀i,(fp i).Nodup
 ap:∀i j b,i≠j→b∈fp i→b∉fp j
 nw:∀i b,b∈fp i→B.H₀ b=none∧H b≠none∧G b=none
def SI(Z:DC)(B:Bs)(md:List Nat)(ρ:DN)(σ:St)(H:Hp):Prop:=∃G fp,SIx Z B md ρ σ H G fp
def dH:List Nat→DN→DN
 |_,[]=> []
 | [],o::ρ=>o::ρ
 |0::md,o::ρ=>o::dH md ρ
 | (_+1)::md,_::ρ=>none::dH md ρ
theorem oQ:∀(md:List Nat)(ρ:DN),(dH md ρ).length=ρ.length
 |md,[]=>by cases md<;>rfl
 | [],o::ρ=>rfl
 |0::md,o::ρ=>by rw [dH,dh,oQ md ρ,dh]
 | (_+1)::md,_::ρ=>by rw [dH,dh,oQ md ρ,dh]
theorem rd{d:D}:∀(md:List Nat)(ρ:DN)(i:Nat),(dH md ρ)[i]? =some (some d)→md.getD i 0=0∧ρ[i]? =some (some d)
 |md,[],i,h=>by cases md<;>simp [dH] at h
 | [],o::ρ,i,h=>⟨by simp,h⟩
 |0::md,o::ρ,0,h=>⟨rfl,by simpa [dH] using h⟩
 |0::md,o::ρ,i+1,h=>by
  rw [dH,sC] at h;obtain ⟨a,b⟩:=rd md ρ i h;exact ⟨by rw [kP];exact a,by rw [sC];exact b⟩
 | (_+1)::md,_::ρ,0,h=>by simp [dH] at h
 | (_+1)::md,_::ρ,i+1,h=>by
  rw [dH,sC] at h;obtain ⟨a,b⟩:=rd md ρ i h;exact ⟨by rw [kP];exact a,by rw [sC];exact b⟩
def Ej(md:List Nat):Bool→DN→DN
 |true,ρ=>ρ
 |false,ρ=>dH md ρ
def pD:Bool→D→Prop
 |true,d=>nF d=true
 |false,_=>True
section
variable {Z:DC} {B:Bs} {md:List Nat} {ρ:DN} {σ:St} {H G:Hp} {fp:Nat→List Addr}
theorem DV{i:Nat}{d:D}(h:(dH md ρ)[i]? =some (some d)):md.getD i 0=0∧ρ[i]? =some (some d):=rd md ρ i h
theorem SIx.HG(S:SIx Z B md ρ σ H G fp):cL Z G σ (dH md ρ):=by
 refine ⟨by rw [oQ];exact S.len,λi d h=>?_⟩
 obtain ⟨z,h⟩:=DV h;obtain ⟨v,hv,o⟩:=S.at_ i d h;rw [z] at o;exact ⟨v,hv,o.1⟩
theorem SIx.HF(S:SIx Z B md ρ σ H G fp):cL Z H σ ρ:=by
 refine ⟨S.len,λi d h=>?_⟩;obtain ⟨v,hv,o⟩:=S.at_ i d h;exact ⟨v,hv,o.dv S.ex.sub λb _ u e=>e⟩
theorem SIx.grow{G' H':Hp}(S:SIx Z B md ρ σ H G fp)(x:Ext G H G' H'):SIx Z B md ρ σ H' G' fp where
 ex:=S.ex.trans x
 fl:=S.fl.trans x.gg
 len:=S.len
 at_:=λi d h=>by
  obtain ⟨v,hv,o⟩:=S.at_ i d h;refine ⟨v,hv,o.keep x.gg λb hb=>?_⟩;cases e:H b with
  |none=>exact absurd e (S.nw i b hb).2.1
  |some u=>exact x.hh _ _ e
 nd:=S.nd
 ap:=S.ap
 nw:=λi b hb=>let ⟨h1,h2,h3⟩:=S.nw i b hb;⟨h1,dQ x.hh h2,x.off b h2 h3⟩
theorem Ext.all{G' H':Hp}(s:aH G H)(x:Ext H H G' H'):Ext G H G H':=⟨.refl _,s.trans x.hh,x.hh,λ_ _ h=>h⟩
open Classical in
noncomputable def gZ(G H:Hp)(fp:Nat→List Addr):Hp:=λb=>if ∃i,b∈fp i then (match H b with|some (.lst xs)=>some (.lst xs) |some (.ext φ)=>some (.ext φ) |_=>none) else G b
open Classical in
noncomputable def qP(G:Hp)(fp:Nat→List Addr):Hp:=λb=>if ∃i,b∈fp i then none else G b
theorem GI{b:Addr}{o:HO}(i:Nat)(h:b∈fp i)(ho:MP o=true)(e:H b=some o):gZ G H fp b=some o:=by
 unfold gZ;rw [if_pos ⟨i,h⟩,e];cases o<;>first|rfl|cases ho
theorem oV{b:Addr}(h:¬∃i,b∈fp i):gZ G H fp b=G b:=if_neg h
theorem SIx.Mv(S:SIx Z B md ρ σ H G fp):aH G (gZ G H fp)∧aH (gZ G H fp) H∧cL Z (gZ G H fp) σ ρ:=by
 have s1:aH G (gZ G H fp):=λb o e=>by
  by_cases h:∃i,b∈fp i
  ·obtain ⟨i,hi⟩:=h
   rw [(S.nw i b hi).2.2] at e;cases e
  ·rw [oV h];exact e
 refine ⟨s1,λb o e=>?_,S.len,λi d h=>?_⟩
 ·by_cases h:∃i,b∈fp i
  ·unfold gZ at e
   rw [if_pos h] at e
   split at e
   ·next xs hx=>rw [hx];exact e
   ·next φ hx=>rw [hx];exact e
   ·cases e
  ·rw [oV h] at e;exact S.ex.sub _ _ e
 ·obtain ⟨v,hv,o⟩:=S.at_ i d h
  exact ⟨v,hv,o.NO s1 λb hb u hu hx=>GI i hb hu hx⟩
theorem SIx.Ud{G' H':Hp}(S:SIx Z B md ρ σ H G fp)(x:Ext (gZ G H fp) H G' H'):Ext G H (qP G' fp) H'∧∀b xs,G' b=some (.tup xs)→qP G' fp b=some (.tup xs):=by
 obtain ⟨s1,s2,_⟩:=S.Mv;refine ⟨⟨λb o e=>?_,λb o e=>?_,x.hh,λb hb hg=>?_⟩,λb xs e=>?_⟩
 ·have h:¬∃i,b∈fp i:=by
   rintro ⟨i,hi⟩;rw [(S.nw i b hi).2.2] at e;cases e
  unfold qP;rw [if_neg h];exact x.gg _ _ (s1 _ _ e)
 ·unfold qP at e
  split at e
  ·cases e
  ·exact x.sub _ _ e
 ·unfold qP
  split
  ·rfl
  ·next h=>exact x.off b hb (by rw [oV h];exact hg)
 ·have h:¬∃i,b∈fp i:=by
   rintro ⟨i,hi⟩;have hb:=(S.nw i b hi).2.1;cases hw:gZ G H fp b with
   |none=>rw [x.off b hb hw] at e;cases e
   |some o=>
    have:=x.gg _ _ hw
    rw [e] at this;cases this;unfold gZ at hw;rw [if_pos ⟨i,hi⟩] at hw
    split at hw<;>cases hw
  unfold qP;rw [if_neg h];exact e
theorem SIx.ev{t:aT}{P:D→Prop}{Q:VK}(S:SIx Z B md ρ σ H G fp)(m:Bool)(h:t (Ej md m ρ) P)
  (hq:∀d,P d→pD m d∧∀v G' H',SIx Z B md ρ σ H' G' fp→Ext G H G' H'→Dv Z G' v d→Q v H'):cX Z t σ H Q:=by
 cases m with
 |false=>exact ⟨G,_,P,S.ex.sub,S.HG,h,λd hd v G' H' x dv=>(hq d hd).2 v G' H' (S.grow x) x dv⟩
 |true=>
  obtain ⟨s1,s2,e⟩:=S.Mv;refine ⟨gZ G H fp,_,P,s2,e,h,λd hd v G' H' x dv=>?_⟩;obtain ⟨x',k⟩:=S.Ud x;exact (hq d hd).2 v _ H' (S.grow x') x' (dv.nF k (hq d hd).1)
theorem SIx.RC{t:cU}{P:Bool→Prop}{Q:Bool→Hp→Prop}(S:SIx Z B md ρ σ H G fp)(h:t ρ P)(hq:∀b,P b→∀H',SIx Z B md ρ σ H' G fp→Q b H'):liftT Z t σ H Q:=
 ⟨H,ρ,P, .refl _,S.HF,h,λb hb G' H' x=>hq b hb H' (S.grow (Ext.all S.ex.sub x))⟩
theorem SIx.BX{i:Nat}{v:V}{d:D}(S:SIx Z B md ρ σ H G fp)(hm:md.getD i 0=0)(dv:Dv Z G v d):SIx Z B md (ρ.set i (some d)) (σ.set i (some v)) H G (λj=>if j=i then [] else fp j) where
 ex:=S.ex
 fl:=S.fl
 len:=by rw [kT,kT];exact S.len
 at_:=λj c h=>by
  by_cases z:i=j
  ·subst z
   by_cases hi:i<ρ.length
   ·rw [qw hi] at h
    cases h;exact ⟨v,qw (by rw [←S.len];exact hi),by rw [hm,if_pos rfl];exact ⟨dv,rfl⟩⟩
   ·rw [Ay (n9 hi),n6 (n9 hi)] at h;cases h
  ·rw [yz z] at h ⊢
   rw [if_neg (Ne.symm z)];exact S.at_ j c h
 nd:=λj=>by split;exact kW;exact S.nd j
 ap:=λj k b ne hj hk=>by
  split at hj
  ·cases hj
  ·split at hk
   ·cases hk
   ·exact S.ap j k b ne hj hk
 nw:=λj b hb=>by
  split at hb
  ·cases hb
  ·exact S.nw j b hb
theorem SIx.JA{i n:Nat}{v:V}{d:D}{f:List Addr}(S:SIx Z B md ρ σ H G fp)(hm:md.getD i 0=n)(o:Own Z G H n v d f)(nd:f.Nodup)(nw:∀b∈f,B.H₀ b=none∧H b≠none∧G b=none)(ap:∀b∈f,∀j,j≠i→b∉fp j):
  SIx Z B md (ρ.set i (some d)) (σ.set i (some v)) H G (λj=>if j=i then f else fp j) where
 ex:=S.ex
 fl:=S.fl
 len:=by rw [kT,kT];exact S.len
 at_:=λj c h=>by
  by_cases z:i=j
  ·subst z
   by_cases hi:i<ρ.length
   ·rw [qw hi] at h
    cases h;exact ⟨v,qw (by rw [←S.len];exact hi),by rw [hm,if_pos rfl];exact o⟩
   ·rw [Ay (n9 hi),n6 (n9 hi)] at h;cases h
  ·rw [yz z] at h ⊢
   rw [if_neg (Ne.symm z)];exact S.at_ j c h
 nd:=λj=>by split;exact nd;exact S.nd j
 ap:=λj k b ne hj hk=>by
  split at hj
  ·next z=>
   rw [if_neg (λw=>ne (z.trans w.symm))] at hk;exact ap b hj k (λw=>ne (z.trans w.symm)) hk
  ·next z=>
   split at hk
   ·exact ap b hk j z hj
   ·exact S.ap j k b ne hj hk
 nw:=λj b hb=>by
  split at hb
  ·exact nw b hb
  ·exact S.nw j b hb
noncomputable def plus(G H:Hp)(F:Addr→Prop):Hp:=λb=>open Classical in if F b then H b else G b
theorem jQ{F:Addr→Prop}{b:Addr}(h:F b):plus G H F b=H b:=by unfold plus;rw [if_pos h]
theorem iy{F:Addr→Prop}{b:Addr}(h:¬F b):plus G H F b=G b:=by unfold plus;rw [if_neg h]
theorem gw{F:Addr→Prop}(s:aH G H):aH (plus G H F) H:=λb o e=>by
 by_cases h:F b
 ·rw [jQ h] at e;exact e
 ·rw [iy h] at e;exact s _ _ e
theorem fF{F:Addr→Prop}(s:aH G H):aH G (plus G H F):=λb o e=>by
 by_cases h:F b
 ·rw [jQ h];exact s _ _ e
 ·rw [iy h];exact e
theorem SIx.W8{t:aT}{P:D→Prop}{Q:VK}(S:SIx Z B md ρ σ H G fp)(h:t ρ P)(hq:∀d,P d→∀v G' H',Ext B.G₀ B.H₀ G' H'→Dv Z G' v d→Q v H'):cX Z t σ H Q:=by
 let F:Addr→Prop:=λb=>∃i,b∈fp i
 have s:=S.ex.sub
 have x0:Ext B.G₀ B.H₀ (plus G H F) H:=⟨S.ex.gg.trans (fF s),gw s,S.ex.hh,λb hb hg=>by
  rw [iy (λ⟨i,hi⟩=>hb (S.nw i b hi).1)];exact S.ex.off b hb hg⟩
 refine ⟨plus G H F,ρ,P,gw s,⟨S.len,λi d h=>?_⟩,h,λd hd v G' H' x dv=>hq d hd v G' H' (x0.trans x) dv⟩;obtain ⟨v,hv,o⟩:=S.at_ i d h;exact ⟨v,hv,o.dv (fF s) λb hb u e=>by rw [jQ ⟨i,hb⟩];exact e⟩
end
structure gQ where
 nx:DN→Prop
 rt:D→Prop
 bk:DN→Prop:=λ_=>False
 ct:DN→Prop:=λ_=>False
abbrev dW:=gQ→DN→Prop
structure Meets (Z:DC) (B:Bs) (md:List Nat) (rn:Nat) (E:gQ) (Dn:Ends):Prop where
 nx:∀ρ,E.nx ρ→∀σ H,SI Z B md ρ σ H→Dn.nx σ H
 rt:∀d,E.rt d→∀v f G' H',Ext B.G₀ B.H₀ G' H'→Own Z G' H' rn v d f→f.Nodup→(∀b∈f,B.H₀ b=none∧H' b≠none∧G' b=none)→Dn.rt v H'
 bk:∀ρ,E.bk ρ→∀σ H,SI Z B md ρ σ H→Dn.bk σ H
 ct:∀ρ,E.ct ρ→∀σ H,SI Z B md ρ σ H→Dn.ct σ H
def oK(Z:DC)(md:List Nat)(rn:Nat)(t:dW):TS:=λDn σ H=>∃(B:Bs)(ρ:DN)(E:gQ),SI Z B md ρ σ H∧t E ρ∧Meets Z B md rn E Dn
def DSt(Z:DC)(X:Cx)(md:List Nat)(rn:Nat)(st:Stmt)(t:dW):Prop:=PS X st (oK Z md rn t)
def tH(Z:DC)(X:Cx)(md:List Nat)(rn:Nat)(sW:List Stmt)(t:dW):Prop:=lD X sW (oK Z md rn t)
theorem PS.imp{X:Cx}{st:Stmt}{t t':TS}(h:PS X st t)(f:∀D σ H,t' D σ H→t D σ H):PS X st t':=λpins s σ H D I q=>h pins s σ H D I (f _ _ _ q)
theorem lD.imp{X:Cx}{st:List Stmt}{t t':TS}(h:lD X st t)(f:∀D σ H,t' D σ H→t D σ H):lD X st t':=λpins s σ H D I q=>h pins s σ H D I (f _ _ _ q)
section
variable {Z:DC} {X:Cx} {md:List Nat} {rn:Nat} {st:Stmt} {sW:List Stmt} {t u:dW} {e:Expr} {te:aT} {pos:Pos}
def Ho:dW:=λE ρ=>E.nx ρ
def t4(t u:dW):dW:=λE ρ=>t {E with nx:=u E} ρ
theorem bg:tH Z X md rn [] Ho:=Jl.imp λD σ H ⟨B,ρ,E,S,h,M⟩=>M.nx _ h _ _ S
theorem ah(h1:DSt Z X md rn st t)(h2:tH Z X md rn sW u):tH Z X md rn (st::sW) (t4 t u):=
 (jR h1 h2).imp λD σ H ⟨B,ρ,E,S,h,M⟩=>⟨B,ρ,_,S,h,⟨λaA h' aw H' S'=>⟨B,aA,E,S',h',M⟩,M.rt,M.bk,M.ct⟩⟩
theorem aq(h1:DSt Z X md rn st t):tH Z X md rn [st] t:=BP h1
theorem wB:DSt Z X md rn st (λ_ _=>False):=Gp.imp λD σ H ⟨B,ρ,E,S,h,M⟩=>h
theorem FG{pos}:DSt Z X md rn (.Break pos) (λE ρ=>E.bk ρ):=Gn.imp λD σ H ⟨B,ρ,E,S,h,M⟩=>M.bk _ h _ _ S
def Q6(te:aT):dW:=λE ρ=>te ρ E.rt
theorem aJ(he:DE Z X e te):DSt Z X md 0 (.Return (some e) pos) (Q6 te):=(zI he).imp λD σ H ⟨B,ρ,E,⟨G,fp,S⟩,h,M⟩=>S.W8 h λd hd v G' H' x dv=>M.rt d hd v [] G' H' x ⟨dv,rfl⟩ kW (λb hb=>by cases hb)
def Mo(c:cU)(t u:dW):dW:=λE ρ=>c ρ λb=>if b=true then t E ρ else u E ρ
theorem bX{c:Expr}{a b:List Stmt}{tc:cU}(hc:DT Z X c tc)(ha:tH Z X md rn a t)(hb:tH Z X md rn b u):DSt Z X md rn (.If c a b pos) (Mo tc t u):=by
 refine (Pc hc ha hb).imp ?_;rintro D σ H ⟨B,ρ,E,⟨G,fp,S⟩,h,M⟩;refine S.RC h λb hb H' S'=>?_;cases b with
 |true=>exact cM ⟨B,ρ,E,⟨G,fp,S'⟩,(by simpa using hb),M⟩
 |false=>exact cF ⟨B,ρ,E,⟨G,fp,S'⟩,(by simpa using hb),M⟩
def Hr(md:List Nat)(m:Bool)(i:Nat)(te:aT):dW:=λE ρ=>te (Ej md m ρ) λd=>pD m d∧E.nx (ρ.set i (some d))
theorem aE(m:Bool)(i:Nat){x:Str}{pos':Pos}(hN:X.N.Nodup)(he:DE Z X e te)(hm:md.getD i 0=0:=by rfl)(hi:X.N[i]? =some x:=by rfl)(hx:Loc X.env.scope x:=by first|exact Or.inl rfl|exact Or.inr rfl)(hs:swapsWith e (some (.Name x pos')) pos.line X.env=pure false:=by rfl)
  (hf:X.fn x=true∨X.env.scope.names.lookup x=some .local:=by first|exact .inl rfl|exact .inr rfl|assumption):DSt Z X md rn (.Assign [.Name x pos'] e pos) (Hr md m i te):=by
 refine (qb hN hi hx he hs hf).imp ?_;rintro D σ H ⟨B,ρ,E,⟨G,fp,S⟩,h,M⟩;exact S.ev m h λd hd=>⟨hd.1,λv G' H' S' x dv=>M.nx _ hd.2 _ _ ⟨G',_,S'.BX hm dv⟩⟩
theorem wF(i:Nat){x:Str}{px gK:Pos}{tg iter elt:Expr}{ifs:List Expr}{scope:Scope}{NC:List Str}{src:List (Option Nat)}{wi:gy}{g:di}{tt:cU}(hc:X.calm=true)(hN:X.N.Nodup)(c:bY X scope)(dZ:cP scope X.N src NC)(hi:DI Z X tg iter wi)
  (hg:∀ex s H,DG Z (cc X scope NC ex s H) tg g) (ht:∀ex s H,vN Z (cc X scope NC ex s H) ifs tt) (he:∀ex s H,DE Z (cc X scope NC ex s H) elt te)
  (j7:swapsWith (.ListComp elt [⟨tg,iter,ifs,0⟩] scope pos) (some (.Name x px)) gK.line X.env=pure true:=by rfl) (hm:md.getD i 0=0:=by rfl) (h7:X.N[i]? =some x:=by rfl) (hx:Loc X.env.scope x:=by first|exact Or.inl rfl|exact Or.inr rfl)
  (hf:X.fn x=true∨X.env.scope.names.lookup x=some .local:=by first|exact .inl rfl|exact .inr rfl|assumption)
  (hs:∀x,foldedSetIterable iter X.env x=pure x:=by intro _;rfl):DSt Z X md rn (.Assign [.Name x px] (.ListComp elt [⟨tg,iter,ifs,0⟩] scope pos) gK) (Hr md false i (Ny wi g tt te src)):=by
 refine (xm hc hN h7 hx c dZ hi hg ht he j7 hf hs).imp ?_;rintro D σ H ⟨B,ρ,E,⟨G,fp,S⟩,h,M⟩;refine ER σ H _ (S.ev false h λd hd=>⟨hd.1,λv G' H' S' x dv=>M.nx _ hd.2 _ _ ⟨G',_,S'.BX hm dv⟩⟩)
end
end L2
namespace L2
open PySem PySem.Spec PyProof.Rows
section
variable {Z:DC} {X:Cx} {B:Bs} {md:List Nat} {rn:Nat} {ρ:DN} {σ:St} {H G:Hp} {fp:Nat→List Addr}
def EO(Z:DC)(md:List Nat)(g:di):TG:=λv σ H Q=>∃(B:Bs)(ρ:DN)(d:D)(P:DN→Prop)(G:Hp)(fp:Nat→List Addr),SIx Z B md ρ σ H G fp∧Dv Z G v d∧g d ρ P∧∀aA,P aA→∀aw CL,SIx Z B md aA aw H G CL→Q aw H
def Iy(Z:DC)(md:List Nat)(g:kG):vP:=λvs σ H Q=>∃(B:Bs)(ρ:DN)(ds:List D)(P:DN→Prop)(G:Hp)(fp:Nat→List Addr),SIx Z B md ρ σ H G fp∧ar Z G vs ds∧g ds ρ P∧∀aA,P aA→∀aw CL,SIx Z B md aA aw H G CL→Q aw H
def Fv(Z:DC)(X:Cx)(md:List Nat)(e:Expr)(g:di):Prop:=PG X e (EO Z md g)
def Ew(Z:DC)(X:Cx)(md:List Nat)(es:List Expr)(g:kG):Prop:=yI X es (Iy Z md g)
theorem aL(i:Nat){x:Str}{pos:Pos}(hN:X.N.Nodup)(hm:md.getD i 0=0:=by rfl)(hi:X.N[i]? =some x:=by rfl)(hx:Loc X.env.scope x:=by first|exact Or.inl rfl|exact Or.inr rfl)(hf:X.fn x=true∨X.env.scope.names.lookup x=some .local:=by first|exact .inl rfl|exact .inr rfl|assumption):Fv Z X md (.Name x pos) (tu i):=
 (BK hN hi hx hf).imp λv σ H Q ⟨B,ρ,d,P,G,fp,S,dv,h,q⟩=>q _ h _ _ (S.BX hm dv)
theorem cQ:Ew Z X md [] Hx:=BL.imp λv σ H Q ⟨B,ρ,ds,P,G,fp,S,dv,⟨h,p⟩,q⟩=>by
 subst h;cases dv;exact ⟨rfl,q _ p _ _ S⟩
theorem aZ{e:Expr}{es:List Expr}{g:di}{gs:kG}(h1:Fv Z X md e g)(h2:Ew Z X md es gs)(hs:(assignEach (e::es) X.env).map (·.2)=assign e X.env::(assignEach es X.env).map (·.2):=by rfl):Ew Z X md (e::es) (EC g gs):=by
 refine (xg h1 h2 hs).imp ?_;rintro v σ H Q ⟨B,ρ,ds,P,G,fp,S,dv,h,q⟩;cases dv with
 |nil=>exact h.elim
 |cons a as=>exact ⟨_,_,rfl,B,ρ,_,_,G,fp,S,a,h,λaA hp aw CL S'=>⟨B,aA,_,P,G,CL,S',as,hp,q⟩⟩
theorem fz(n:Nat){es:List Expr}{k:Nat}{pos:Pos}{gs:kG}(hc:X.calm=true)(h:Ew Z X md es gs)(hn:(assignEach es X.env).length=n:=by rfl)(jG:(assignEach es X.env).findIdx? (·.1)=none:=by rfl):Fv Z X md (.Tuple es k pos) (Hy n gs):=by
 refine (E8 hc h hn jG).imp ?_;rintro v σ H Q ⟨B,ρ,d,P,G,fp,S,dv,h,q⟩;cases dv<;>first|exact h.elim|skip
 rename_i a xs ds ha es
 exact ⟨a,xs,rfl,fR.of (S.ex.sub _ _ ha),by rw [es.length];exact h.1,B,ρ,_,P,G,fp,S,es,h.2,q⟩
def QS(md:List Nat)(te:aT)(g:di):dW:=λE ρ=>te (dH md ρ) λd=>g d ρ E.nx
theorem pk{tg e:Expr}{te:aT}{g:di}{pos:Pos}(he:DE Z X e te)(hg:Fv Z X md tg g)(hs:swapsWithSole [tg] e pos.line X.env=pure false:=by rfl)(hw:swappedStores [tg] e X.env=pure none:=by rfl)
  (h1:(assignEach [tg] X.env).map (·.2)= [assign tg X.env]:=by rfl):DSt Z X md rn (.Assign [tg] e pos) (QS md te g):=by
 refine (zH he hg hs hw h1).imp ?_;rintro D σ H ⟨B,ρ,E,⟨G,fp,S⟩,h,M⟩;exact S.ev false h λd hd=>⟨trivial,λv G' H' S' x dv=>⟨B,ρ,d,E.nx,G',fp,S',dv,hd,λaA h' aw CL S2=>M.nx _ h' _ _ ⟨G',CL,S2⟩⟩⟩
def lP(g:di)(tb:dW)(E:gQ):List D→DN→Prop
 | [],ρ=>E.nx ρ
 |x::xs,ρ=>g x ρ λaU=>tb {nx:=lP g tb E xs,ct:=lP g tb E xs,bk:=E.nx,rt:=E.rt} aU
def Mn(md:List Nat)(m:Bool)(wi:gy)(g:di)(tb:dW):dW:=λE ρ=>wi (Ej md m ρ) λds=>lP g tb E ds ρ
theorem wM{D':Ends}{J:It}{ds:List D}{g:di}{tb:dW}{E:gQ}(S:SIx Z B md ρ σ H G fp)(it:tJ Z G J ds)(hd:lP g tb E ds ρ)(M:Meets Z B md rn E D'):
  ∃W:Nat→Nat→St→Hp→Prop,(∃m,W 0 m σ H)∧∀i m σ H,W i m σ H→
   (J.stop i H∧D'.nx σ H)∨(J.go i H∧∃N:St→Hp→Prop,(∀aw H',N aw H'→∃m',m'<m∧W (i+1) m' aw H')∧∀x H',J.yld i H x H'→EO Z md g x σ H' λdY H2=>oK Z md rn tb {D' with nx:=N,ct:=N,bk:=D'.nx} dY H2):=by
 let B1:Bs:={B with Gf:=G}
 have back:∀ρ σ H,SI Z B1 md ρ σ H→SI Z B md ρ σ H:=λρ σ H ⟨G2,CM,S2⟩=>⟨G2,CM,⟨S2.ex,S.fl.trans S2.fl,S2.len,S2.at_,S2.nd,S2.ap,S2.nw⟩⟩;have S1:SIx Z B1 md ρ σ H G fp:=⟨S.ex, .refl _,S.len,S.at_,S.nd,S.ap,S.nw⟩;refine ⟨λi m σ H=>m=ds.length-i∧i≤ds.length∧∃ρ,SI Z B1 md ρ σ H∧lP g tb E (ds.drop i) ρ,⟨_,rfl,cw _,ρ,⟨G,fp,S1⟩,hd⟩,?_⟩;rintro i m dY H2 ⟨rfl,hi,cq,⟨G2,CM,S2⟩,hf⟩;obtain ⟨go,stop,yld⟩:=it G2 H2 S2.fl S2.ex.sub i
 by_cases bN:i<ds.length
 ·refine .inr ⟨go bN,λaw H'=>∃aA,SI Z B1 md aA aw H'∧lP g tb E (ds.drop (i+1)) aA,λaw H' n=>⟨ds.length-(i+1),by omega,rfl,bN,n⟩,λx H' y=>?_⟩
  obtain ⟨G3,d,x3,HV,dv⟩:=yld x H' bN y;rw [jD HV] at hf;refine ⟨B1,cq,d,_,G3,CM,S2.grow x3,dv,hf,λρ4 h4 eF Xc S4=>?_⟩;exact ⟨B1,ρ4,_,⟨G3,Xc,S4⟩,h4,⟨λaA h' aw H' s'=>⟨aA,s',h'⟩,M.rt,λaA h' aw H' s'=>M.nx _ h' _ _ (back _ _ _ s'),λaA h' aw H' s'=>⟨aA,s',h'⟩⟩⟩
 ·have e:ds.drop i= []:=vB (by omega)
  rw [e] at hf;exact .inl ⟨stop (by omega),M.nx _ hf _ _ (back _ _ _ ⟨G2,CM,S2⟩)⟩
variable {tg iter:Expr} {body:List Stmt} {wi:gy} {g:di} {tb:dW} {pos:Pos}
theorem fS(hc:X.calm=true)(hp:PassesOwn (model X.prog X.w) X.A X.env X.xe)(hi:DI Z X tg iter wi)(hg:Fv Z X md tg g)(hb:tH Z X md rn body tb)
  (hs:∀x,foldedSetIterable iter X.env x=pure x:=by intro _;rfl):DSt Z X md rn (.For tg iter body [] pos) (Mn md false wi g tb):=by
 refine (Fb hp hc hi hg hb hs).imp ?_;rintro D σ H ⟨B,ρ,E,⟨G,fp,S⟩,h,M⟩;exact ⟨G,_,_,S.ex.sub,S.HG,h,λds hd J G1 H1 x1 it=>wM (S.grow x1) it hd M⟩
def K0(Z:DC)(wi:gy):TI:=λσ H R=>∃(G:Hp)(ρ:DN)(P:List D→Prop),aH G H∧cL Z G σ ρ∧wi ρ P∧∀ds,P ds→∀J G' H',Ext G H G' H'→(∀G2,tJ Z G2 J ds)→R J H'
def MZ(Z:DC)(X:Cx)(tg e:Expr)(wi:gy):Prop:=PI X tg e (K0 Z wi)
theorem pz(hc:X.calm=true)(hp:PassesOwn (model X.prog X.w) X.A X.env X.xe)(hi:MZ Z X tg iter wi)(hg:Fv Z X md tg g)(hb:tH Z X md rn body tb)
  (hs:∀x,foldedSetIterable iter X.env x=pure x:=by intro _;rfl):DSt Z X md rn (.For tg iter body [] pos) (Mn md true wi g tb):=by
 refine (Fb hp hc hi hg hb hs).imp ?_;rintro D σ H ⟨B,ρ,E,⟨G,fp,S⟩,h,M⟩;exact ⟨H,ρ,_, .refl _,S.HF,h,λds hd J G1 H1 x1 it=>wM (S.grow (Ext.all S.ex.sub x1)) (it _) hd M⟩
variable {a b e:Expr} {ta te:aT} {t:iC}
theorem oq{p:Pos}(hg:Gl X "range")(hm:X.mg "range"=none)(ha:DA Z X [a] t)(hs:starEach [a] X.env= [(false,eval a X.env)]:=by rfl):MZ Z X tg (.Call (.Name "range" p) [a] [] pos) (Ms t):=by
 refine (uO hg hm ha hs).imp ?_;rintro σ H Q ⟨G,ρ,P,s,en,h,q⟩;refine ⟨G,ρ,_,s,en,h,λds hd vs G1 H1 x1 dv=>?_⟩
 split at hd
 ·obtain ⟨_,rfl,a⟩:=dv.ofOne
  exact ⟨_,by rw [a.ofInt],hd.1.1,hd.1.2,q _ hd.2 _ G1 H1 x1 λ_=>qO 0 _⟩
 ·exact hd.elim
theorem CA{p:Pos}(hg:Gl X "range")(hm:X.mg "range"=none)(ha:DA Z X [a,b] t)(hs:starEach [a,b] X.env= [(false,eval a X.env),(false,eval b X.env)]:=by rfl)(iI:starEach [b] X.env= [(false,eval b X.env)]:=by rfl):MZ Z X tg (.Call (.Name "range" p) [a,b] [] pos) (Ry t):=by
 refine (DR hg hm ha hs iI).imp ?_;rintro σ H Q ⟨G,ρ,P,s,en,h,q⟩;refine ⟨G,ρ,_,s,en,h,λds hd vs G1 H1 x1 dv=>?_⟩
 split at hd
 ·obtain ⟨u1,u2,rfl,da,db⟩:=dv.OY
  exact ⟨_,_,by rw [da.ofInt,db.ofInt],hd.1,q _ hd.2 _ G1 H1 x1 λ_=>qO _ _⟩
 ·exact hd.elim
def Ez(c:cU)(tb:dW):dW:=λE ρ=>∃W:Nat→DN→Prop,(∃m,W m ρ)∧∀m ρ,W m ρ→c ρ λb=>if b=true then tb {nx:=λaA=>∃m',m'<m∧W m' aA,ct:=λaA=>∃m',m'<m∧W m' aA,bk:=E.nx,rt:=E.rt} ρ else E.nx ρ
theorem wG{c:Expr}{tc:cU}(hp:PassesOwn (model X.prog X.w) X.A X.env X.xe)(hc:DT Z X c tc)(hb:tH Z X md rn body tb):DSt Z X md rn (.While c body [] pos) (Ez tc tb):=by
 refine (Gq hp hc hb).imp ?_;rintro D σ H ⟨B,ρ,E,S,⟨W,⟨m0,w0⟩,turn⟩,M⟩;refine ⟨λm σ H=>∃ρ,SI Z B md ρ σ H∧W m ρ,⟨m0,ρ,S,w0⟩,?_⟩;rintro m dY H2 ⟨cq,⟨G2,CM,S2⟩,w2⟩;refine S2.RC (turn m cq w2) λb hb H' S'=>?_;cases b with
 |false=>exact cF (M.nx _ (by simpa using hb) _ _ ⟨G2,CM,S'⟩)
 |true=>
  refine cM ⟨λaw H'=>∃aA m',m'<m∧SI Z B md aA aw H'∧W m' aA,λaw H' ⟨aA,m',h1,h2,h3⟩=>⟨m',h1,aA,h2,h3⟩,B,cq,_,⟨G2,CM,S'⟩,(by simpa using hb),?_⟩
  exact ⟨λaA ⟨m',h1,h2⟩ aw H' s'=>⟨aA,m',h1,s',h2⟩,M.rt,M.nx,λaA ⟨m',h1,h2⟩ aw H' s'=>⟨aA,m',h1,s',h2⟩⟩
abbrev lA:=DN→(List D→Prop)→Prop
def ux(Z:DC)(n:Nat)(t:lA):TE:=λσ H Q=>∃(G:Hp)(ρ:DN)(P:List D→Prop),aH G H∧cL Z G σ ρ∧t ρ P∧∀ds,P ds→∀v f G' H',Ext G H G' H'→Own Z G' H' n v (.lst ds) f→f.Nodup→(∀b∈f,H b=none∧H' b≠none∧G' b=none)→Q v H'
def DF(Z:DC)(X:Cx)(n:Nat)(e:Expr)(t:lA):Prop:=PE X e (ux Z n t)
theorem Ext.side{p:Addr}{o:HO}{G1 H1:Hp}(x:Ext G H G1 H1)(hp:H1 p=none):Ext G H G1 (upd H1 p o):=
 ⟨x.gg,λb u e=>by rw [aF (aW e (x.sub.free hp))];exact x.sub _ _ e,x.hh.trans (aQ hp _),x.off⟩
theorem pW{p:Addr}{xs:List V}{ds:List D}{G1 H1:Hp}(x:Ext G H G1 H1)(hp:H1 p=none)(dv:ar Z G1 xs ds):
  Own Z G1 (upd H1 p (.lst xs)) 1 (.ref p) (.lst ds) [p]∧([p]:List Addr).Nodup∧∀b∈([p]:List Addr),H b=none∧(upd H1 p (.lst xs)) b≠none∧G1 b=none:=by
 refine ⟨.inl ⟨p,xs,ds,[],rfl,rfl,ax,rfl,dv.own⟩,by simp,λb hb=>?_⟩
 have:b=p:=by simpa using hb
 subst this;exact ⟨x.hh.free hp,(by rw [ax];exact λz=>nomatch z),x.sub.free hp⟩
def RE(t:iC):lA:=λρ P=>t ρ λds=>ds.length≤sizeLine∧P ds
theorem tq{es:List Expr}(h:DA Z X es t):DF Z X 1 (.List es pos) (RE t):=by
 refine (E4 h).imp ?_;rintro σ H Q ⟨G,ρ,P,s,e,h,q⟩;refine ⟨G,ρ,_,s,e,h,?_⟩;rintro ds ⟨hl,hp⟩ vs G1 H1 x1 bo;refine ⟨by rw [bo.length];exact hl,λp h8=>?_⟩
 obtain ⟨o1,o2,o3⟩:=pW x1 h8 bo;exact q _ hp _ _ _ _ (x1.side h8) o1 o2 o3
def NT(wi:gy)(g:di)(tt:cU)(te:aT)(src:List (Option Nat)):lA:=λρ P=>wi ρ λds=>lcW g tt te ds (u4 src ρ) [] λ_ out=>P out
theorem Bz{src:List (Option Nat)}{tt:cU}:∀σ H Q,ux Z 1 (NT wi g tt te src) σ H Q→LM (oJ Z wi) (lX Z g) (liftT Z tt) (cX Z te) src σ H Q:=by
 rintro σ H Q ⟨G,ρ,P,s,en,h,q⟩;refine ⟨G,ρ,_,s,en,h,λds hd J G1 H1 x1 it Ad hA=>?_⟩;refine ⟨λi m dY H2=>m=ds.length-i∧i≤ds.length∧∃cq acc,CS Z G1 H1 Ad cq acc dY H2∧lcW g tt te (ds.drop i) cq acc λ_ out=>P out,⟨_,rfl,cw _,_,[], .begin x1.sub hA ((en.mono x1.gg).src src),hd⟩,?_⟩;rintro i m dY H2 ⟨rfl,hi,cq,acc,c,hl⟩
 by_cases bN:i<ds.length
 ·obtain ⟨go,turn⟩:=wY hA G1 it i cq acc dY H2 c (λ_ s=>s) bN hl
  exact .inr ⟨go,_,λaw H' n=>⟨ds.length-(i+1),by omega,rfl,bN,n⟩,turn⟩
 ·have e:ds.drop i= []:=vB (by omega)
  rw [e] at hl;obtain ⟨G2,ys,s1,s2,s3,off,gA,j6,bo,en⟩:=c;refine .inl ⟨(it G2 H2 s1 s2 i).2.1 (by omega),q _ hl (.ref Ad) [Ad] G2 H2 ⟨x1.gg.trans s1,s2,x1.hh.trans s3,λb hb hg=>off b (dQ x1.hh hb) (x1.off b hb hg)⟩ (.inl ⟨Ad,ys,acc,[],rfl,rfl,j6,rfl,bo.own⟩) (by simp) λb hb=>?_⟩
  have:b=Ad:=by simpa using hb
  subst this;exact ⟨x1.hh.free hA,(by rw [j6];exact λz=>nomatch z),gA⟩
variable {elt:Expr} {ifs:List Expr} {scope:Scope} {NC:List Str} {src:List (Option Nat)} {tt:cU}
def Hn(md:List Nat)(i:Nat)(t:lA):dW:=λE ρ=>t (dH md ρ) λds=>E.nx (ρ.set i (some (.lst ds)))
theorem qV{n i:Nat}{t:lA}{D':Ends}{E:gQ}(hm:md.getD i 0=n)(S:SIx Z B md ρ σ H G fp)(h:t (dH md ρ) λds=>E.nx (ρ.set i (some (.lst ds))))(M:Meets Z B md rn E D'):ux Z n t σ H λv H'=>D'.nx (σ.set i (some v)) H':=by
 refine ⟨G,_,_,S.ex.sub,S.HG,h,λds hd v f G' H' x o nd nw=>?_⟩;refine M.nx _ hd _ _ ⟨G',_,(S.grow x).JA hm o nd (λb hb=>⟨S.ex.hh.free (nw b hb).1,(nw b hb).2⟩) λb hb j _ hj=>(S.nw j b hj).2.1 (nw b hb).1⟩
theorem tw(i:Nat){n:Nat}{x:Str}{pos':Pos}{t:lA}(hN:X.N.Nodup)(he:DF Z X n e t)(hm:md.getD i 0=n:=by rfl)(hi:X.N[i]? =some x:=by rfl)(hx:Loc X.env.scope x:=by first|exact Or.inl rfl|exact Or.inr rfl)(hs:swapsWith e (some (.Name x pos')) pos.line X.env=pure false:=by rfl)
  (hf:X.fn x=true∨X.env.scope.names.lookup x=some .local:=by first|exact .inl rfl|exact .inr rfl|assumption):DSt Z X md rn (.Assign [.Name x pos'] e pos) (Hn md i t):=by
 refine (qb hN hi hx he hs hf).imp ?_;rintro D σ H ⟨B,ρ,E,⟨G,fp,S⟩,h,M⟩;exact qV hm S h M
theorem wC(i:Nat){x:Str}{px gK:Pos}(hc:X.calm=true)(hN:X.N.Nodup)(c:bY X scope)(dZ:cP scope X.N src NC)(hi:DI Z X tg iter wi)
  (hg:∀ex s H,DG Z (cc X scope NC ex s H) tg g) (ht:∀ex s H,vN Z (cc X scope NC ex s H) ifs tt) (he:∀ex s H,DE Z (cc X scope NC ex s H) elt te)
  (j7:swapsWith (.ListComp elt [⟨tg,iter,ifs,0⟩] scope pos) (some (.Name x px)) gK.line X.env=pure true:=by rfl) (hm:md.getD i 0=1:=by rfl) (h7:X.N[i]? =some x:=by rfl) (hx:Loc X.env.scope x:=by first|exact Or.inl rfl|exact Or.inr rfl)
  (hf:X.fn x=true∨X.env.scope.names.lookup x=some .local:=by first|exact .inl rfl|exact .inr rfl|assumption)
  (hs:∀x,foldedSetIterable iter X.env x=pure x:=by intro _;rfl):DSt Z X md rn (.Assign [.Name x px] (.ListComp elt [⟨tg,iter,ifs,0⟩] scope pos) gK) (Hn md i (NT wi g tt te src)):=by
 refine (xm hc hN h7 hx c dZ hi hg ht he j7 hf hs).imp ?_;rintro D σ H ⟨B,ρ,E,⟨G,fp,S⟩,h,M⟩;exact Bz σ H _ (qV hm S h M)
end
section
variable {Z:DC} {X:Cx} {B:Bs} {md:List Nat} {rn:Nat} {ρ:DN} {σ:St} {H G:Hp} {fp:Nat→List Addr} {a e k o:Expr} {ta te tk tp:aT} {pos apos aR p2:Pos}
theorem SIx.mut{i:Nat}{v:V}{d':D}{b:Addr}{c:HO}(S:SIx Z B md ρ σ H G fp)(hi:σ[i]? =some (some v))(hb:b∈fp i)(o:Own Z G (upd H b c) (md.getD i 0) v d' (fp i)):SIx Z B md (ρ.set i (some d')) σ (upd H b c) G fp where
 ex:=by
  obtain ⟨h1,h2,h3⟩:=S.nw i b hb;exact ⟨S.ex.gg,λx u e=>by rw [aF (aW e h3)];exact S.ex.sub _ _ e,λx u e=>by rw [aF (aW e h1)];exact S.ex.hh _ _ e,S.ex.off⟩
 fl:=S.fl
 len:=by rw [kT];exact S.len
 at_:=λj w h=>by
  by_cases z:i=j
  ·subst z
   by_cases hl:i<ρ.length
   ·rw [qw hl] at h
    cases h;exact ⟨v,hi,o⟩
   ·rw [Ay (n9 hl),n6 (n9 hl)] at h;cases h
  ·rw [yz z] at h
   obtain ⟨u,hu,ow⟩:=S.at_ j w h;exact ⟨u,hu,ow.keep (.refl _) λx hx=>aF λq=>S.ap i j b z hb (by rw [←q];exact hx)⟩
 nd:=S.nd
 ap:=S.ap
 nw:=λj x hx=>by
  obtain ⟨h1,h2,h3⟩:=S.nw j x hx;refine ⟨h1,?_,h3⟩
  by_cases z:x=b
  ·rw [z,ax];exact λq=>nomatch q
  ·rw [aF z];exact h2
theorem SIx.one{i:Nat}{d:D}(S:SIx Z B md ρ σ H G fp)(hm:md.getD i 0=1)(h:ρ[i]? =some (some d)):∃l xs ds,d= .lst ds∧σ[i]? =some (some (.ref l))∧H l=some (.lst xs)∧ar Z G xs ds∧
  ∀oX pj,ar Z G oX pj→SIx Z B md (ρ.set i (some (.lst pj))) σ (upd H l (.lst oX)) G fp:=by
 obtain ⟨v,hv,o⟩:=S.at_ i d h;rw [hm] at o;obtain ⟨l,xs,ds,pF,rfl,rfl,hl,hf,ol⟩:=o.one;obtain ⟨dv,rfl⟩:=ol.flat;refine ⟨l,xs,ds,rfl,hv,hl,dv,λoX pj yY=>S.mut hv (by rw [hf];simp) ?_⟩
 rw [hm,hf];exact .inl ⟨l,oX,pj,[],rfl,rfl,ax,rfl,yY.own⟩
theorem ty_list{K:PySem.W.Frag}{l:Addr}{xs:List V}(h:H l=some (.lst xs)):LR K "list" (.ref l) H:= .inl ⟨rfl,_,cp.of h⟩
def QR(md:List Nat)(m:Bool)(i:Nat)(te:aT):dW:=λE ρ=>∃ds,ρ[i]? =some (some (.lst ds))∧te (Ej md m ρ) λd=>pD m d∧ds.length<sizeLine∧E.nx (ρ.set i (some (.lst (ds++ [d]))))
theorem EE(m:Bool)(i:Nat){x:Str}{px:Pos}(he:DE Z X e te)(hm:md.getD i 0=1:=by rfl)(hi:X.N[i]? =some x:=by rfl)(hv:sH X.env.scope x:=by first|exact Or.inl rfl|exact Or.inr (Or.inl rfl) |exact Or.inr (Or.inr rfl))(hd:(x==("__debug__":Str))=false:=by decide)(fT:(x==("__classdict__":Str))=false:=by decide)
  (dE:attributeBase (.Name x px) "append" X.env (eval (.Name x px) X.env)=eval (.Name x px) X.env:=by rfl)
  (iH:((backTo aR (starEach [e] X.env)).all (λx=>!x.1)&&(backToKw aR (keywordEach [] X.env)).all (λx=>x.1.isSome)&&decide (([e]:List Expr).length+([]:List Keyword).length+(if ([]:List Keyword).isEmpty then 0 else 1)<30))=true:=by rfl)
  (cz:(apos.endLine==aR.line)=true:=by rfl) (hs:starEach [e] X.env=(false,eval e X.env)::starEach [] X.env:=by rfl) (dF:(backTo aR (starEach [] X.env)).any (·.1)=false:=by rfl)
  (j7:swapsWith (.Call (.Attribute (.Name x px) "append" apos) [e] [] aR) none pos.line X.env=pure false:=by rfl):
  DSt Z X md rn (.Expr (.Call (.Attribute (.Name x px) "append" apos) [e] [] aR) pos) (QR md m i te):=by
 refine (qa (uN PySem.F.plainAttrs_list PySem.F.slot_list_append PySem.F.type_list_append oN (pv i hi hv hd fT) (dO he ig hs) dE iH cz hs dF) j7).imp ?_;rintro D σ H ⟨B,ρ,E,⟨G,fp,S⟩,⟨ds,h1,h⟩,M⟩;obtain ⟨l,xs,_,_,e2,e3,_⟩:=S.one hm h1;refine ⟨_,e2,ty_list e3,S.ev m h λd hd=>⟨hd.1,λv G' H' S' x dv=>?_⟩⟩;obtain ⟨_,h2,h3⟩:=hd;obtain ⟨l',oX,pj,e1,iX,sM,bo,put⟩:=S'.one hm h1;cases e1;rw [e2] at iX;cases iX;exact ⟨l,oX,v,rfl,rfl,sM,by rw [bo.length];exact h2,M.nx _ h3 _ _ ⟨G',fp,put _ _ (bo.snoc dv)⟩⟩
theorem ar.ins{vs:List V}{ds:List D}{v:V}{d:D}(n:Nat)(h:ar Z G vs ds)(dv:Dv Z G v d):ar Z G (Wb.ins vs n v) (Wb.ins ds n d):=(h.take n).append (.cons dv (h.drop n))
def QW(md:List Nat)(m:Bool)(i:Nat)(tk te:aT):dW:=λE ρ=>∃ds,ρ[i]? =some (some (.lst ds))∧tk ρ λkk=>∃k,kk= .int k∧te (Ej md m ρ) λd=>pD m d∧(0≤k∧k≤ds.length∧ds.length<sizeLine)∧E.nx (ρ.set i (some (.lst (Wb.ins ds k.toNat d))))
theorem Kk(m:Bool)(i:Nat){x:Str}{px:Pos}(hk:DE Z X k tk)(he:DE Z X e te)(hm:md.getD i 0=1:=by rfl)(hi:X.N[i]? =some x:=by rfl)(hv:sH X.env.scope x:=by first|exact Or.inl rfl|exact Or.inr (Or.inl rfl) |exact Or.inr (Or.inr rfl))(hd:(x==("__debug__":Str))=false:=by decide)(fT:(x==("__classdict__":Str))=false:=by decide)
  (dE:attributeBase (.Name x px) "insert" X.env (eval (.Name x px) X.env)=eval (.Name x px) X.env:=by rfl)
  (iH:((backTo aR (starEach [k,e] X.env)).all (λx=>!x.1)&&(backToKw aR (keywordEach [] X.env)).all (λx=>x.1.isSome)&&decide (([k,e]:List Expr).length+([]:List Keyword).length+(if ([]:List Keyword).isEmpty then 0 else 1)<30))=true:=by rfl)
  (cz:(apos.endLine==aR.line)=true:=by rfl) (hs:starEach [k,e] X.env=(false,eval k X.env)::starEach [e] X.env:=by rfl) (iI:starEach [e] X.env=(false,eval e X.env)::starEach [] X.env:=by rfl) (dF:(backTo aR (starEach [e] X.env)).any (·.1)=false:=by rfl)
  (j7:swapsWith (.Call (.Attribute (.Name x px) "insert" apos) [k,e] [] aR) none pos.line X.env=pure false:=by rfl):
  DSt Z X md rn (.Expr (.Call (.Attribute (.Name x px) "insert" apos) [k,e] [] aR) pos) (QW md m i tk te):=by
 refine (qa (uN PySem.F.plainAttrs_list PySem.F.slot_list_insert PySem.F.type_list_insert Ds (pv i hi hv hd fT) (dO hk (dO he ig iI) hs) dE iH cz hs dF) j7).imp ?_;rintro D σ H ⟨B,ρ,E,⟨G,fp,S⟩,⟨ds,h1,h⟩,M⟩;obtain ⟨l,xs,_,_,e2,e3,_⟩:=S.one hm h1;refine ⟨_,e2,ty_list e3,S.ev true h ?_⟩;rintro _ ⟨k,rfl,h⟩;refine ⟨rfl,λv1 G1 H1 S1 x1 CF=>S1.ev m h λd hd=>⟨hd.1,λv G' H' S' x dv=>?_⟩⟩;cases CF;obtain ⟨_,⟨h2,Xh,RK⟩,h3⟩:=hd;obtain ⟨l',oX,pj,e1,iX,sM,bo,put⟩:=S'.one hm h1;cases e1;rw [e2] at iX;cases iX;exact ⟨l,oX,k,v,rfl,rfl,sM,h2,by rw [bo.length];exact Xh,by rw [bo.length];exact RK,M.nx _ h3 _ _ ⟨G',fp,put _ _ (bo.ins _ dv)⟩⟩
theorem J7{α:Type}{xs:List α}{i:Int}{j n:Nat}{v:α}(hn:xs.length=n)(h:oF n i=some j)(e:xs[j]? =some v):gD xs i=some v:=by unfold gD;rw [hn,h];exact e
def Kf(md:List Nat)(m:Bool)(i:Nat)(tk te:aT):dW:=λE ρ=>te (Ej md m ρ) λd=>pD m d∧∃ds,ρ[i]? =some (some (.lst ds))∧tk ρ λkk=>∃k j,kk= .int k∧oF ds.length k=some j∧E.nx (ρ.set i (some (.lst (ds.set j d))))
theorem wD(m:Bool)(i:Nat){x:Str}{px ps:Pos}(hk:DE Z X k tk)(he:DE Z X e te)(hm:md.getD i 0=1:=by rfl)(hi:X.N[i]? =some x:=by rfl)(hv:sH X.env.scope x:=by first|exact Or.inl rfl|exact Or.inr (Or.inl rfl) |exact Or.inr (Or.inr rfl))(hd:(x==("__debug__":Str))=false:=by decide)(fT:(x==("__classdict__":Str))=false:=by decide)
  (ha:∀v,assign (.Subscript (.Name x px) k ps) X.env v=(do
   let ov ←holding [v] (eval (.Name x px) X.env)
   let iv ←holding [v,ov] (eval k X.env)
   standAt ps
   holding [v,ov,iv] (setItem ov iv v)
   release [v,ov,iv] []):=by intro _;rfl)
  (hs:swapsWithSole [.Subscript (.Name x px) k ps] e pos.line X.env=pure false:=by rfl) (hw:swappedStores [.Subscript (.Name x px) k ps] e X.env=pure none:=by rfl)
  (h1:(assignEach [.Subscript (.Name x px) k ps] X.env).map (·.2)= [assign (.Subscript (.Name x px) k ps) X.env]:=by rfl):DSt Z X md rn (.Assign [.Subscript (.Name x px) k ps] e pos) (Kf md m i tk te):=by
 refine (zH he (E7 (pv i hi hv hd fT) hk set_list ha) hs hw h1).imp ?_;rintro D σ H ⟨B,ρ,E,⟨G,fp,S⟩,h,M⟩;refine S.ev m h λd hd=>⟨hd.1,λv G' H' S' x dv=>?_⟩;obtain ⟨_,ds,h1,h⟩:=hd;obtain ⟨l,xs,_,_,e2,e3,_⟩:=S'.one hm h1;refine ⟨_,e2,S'.ev true h ?_⟩;rintro _ ⟨k,j,rfl,hj,h3⟩;refine ⟨rfl,λv1 G1 H1 S1 x1 CF=>?_⟩;cases CF;obtain ⟨l',oX,pj,e1,iX,sM,bo,put⟩:=S1.one hm h1;cases e1;rw [e2] at iX;cases iX;exact ⟨l,oX,k,j,rfl,rfl,sM,by rw [bo.length];exact hj,M.nx _ h3 _ _ ⟨G1,fp,put _ _ (bo.set (dv.mono x1.gg) j)⟩⟩
def Q4(md:List Nat)(i j:Nat):dW:=λE ρ=>∃ds d,ρ[j]? =some (some (.lst (ds++ [d])))∧E.nx ((ρ.set j (some (.lst ds))).set i (some d))
theorem yX(i j:Nat){x y:Str}{px py:Pos}(hN:X.N.Nodup)(hm:md.getD i 0=0:=by rfl)(OB:md.getD j 0=1:=by rfl)(hi:X.N[i]? =some x:=by rfl)(hx:Loc X.env.scope x:=by first|exact Or.inl rfl|exact Or.inr rfl)
  (hj:X.N[j]? =some y:=by rfl) (hv:sH X.env.scope y:=by first|exact Or.inl rfl|exact Or.inr (Or.inl rfl) |exact Or.inr (Or.inr rfl)) (hd:(y==("__debug__":Str))=false:=by decide) (fT:(y==("__classdict__":Str))=false:=by decide)
  (dE:attributeBase (.Name y py) "pop" X.env (eval (.Name y py) X.env)=eval (.Name y py) X.env:=by rfl) (cz:(apos.endLine==aR.line)=true:=by rfl)
  (hs:swapsWith (.Call (.Attribute (.Name y py) "pop" apos) [] [] aR) (some (.Name x px)) pos.line X.env=pure false:=by rfl)
  (hf:X.fn x=true∨X.env.scope.names.lookup x=some .local:=by first|exact .inl rfl|exact .inr rfl|assumption):DSt Z X md rn (.Assign [.Name x px] (.Call (.Attribute (.Name y py) "pop" apos) [] [] aR) pos) (Q4 md i j):=by
 refine (qb hN hi hx (Lj PySem.F.plainAttrs_list PySem.F.slot_list_pop PySem.F.type_list_pop K2 (pv j hj hv hd fT) dE cz) hs hf).imp ?_;rintro D σ H ⟨B,ρ,E,⟨G,fp,S⟩,⟨ds,d,h1,h⟩,M⟩;obtain ⟨l,xs,pj,e1,e2,e3,bo,put⟩:=S.one OB h1;cases e1;have hl:xs.length=ds.length+1:=by rw [bo.length];simp
 obtain ⟨v,OH,dv⟩:=bo.get (i:=xs.length-1) (d:=d) (by rw [hl];simp)
 refine ⟨_,e2,ty_list e3,l,xs,v,rfl,rfl,e3,OH,M.nx _ h _ _ ⟨G,_,(put xs.dropLast ds ?_).BX hm dv⟩⟩
 have:=bo.take ds.length
 rw [List.take_left'] at this
 ·rw [List.dropLast_eq_take,hl];exact this
 ·rfl
end
structure PU (mg:Str→Option Value):Prop where
 len:mg "len"=none
 range:mg "range"=none
 max:mg "max"=none
 min:mg "min"=none
 enumerate:mg "enumerate"=none
 zip:mg "zip"=none
 sorted:mg "sorted"=none
 all:mg "all"=none
 isinstance:mg "isinstance"=none
 int:mg "int"=none
 bool:mg "bool"=none
 list:mg "list"=none
 tuple:mg "tuple"=none
 sum:mg "sum"=none
 reversed:mg "reversed"=none
theorem Hd:bootBuiltins "bool"=some (.type "bool"):=by decide+kernel
theorem Ka:bootBuiltins "int"=some (.type "int"):=by decide+kernel
theorem lJ:bootBuiltins "list"=some (.type "list"):=by decide+kernel
theorem iD:bootBuiltins "sorted"=some (.builtin "sorted"):=by decide+kernel
theorem aO:bootBuiltins "len"=some (.builtin "len"):=by decide+kernel
section
variable {P:Program} {w:World} {K:PySem.W.Frag} {mg:Str→Option Value} {base:Heap} {Z:DC}
def tF(N:List Str)(ds:List D):DN:=ds.map some++List.replicate (N.length-ds.length) none
def lY(Z:DC)(n:Nat)(sd:dD):Sp:=λvs H Q _=>∃(G:Hp)(ds:List D)(P:D→Prop),aH G H∧ar Z G vs ds∧sd ds P∧∀d,P d→∀v f G' H',Ext G H G' H'→Own Z G' H' n v d f→f.Nodup→(∀b∈f,H b=none∧H' b≠none∧G' b=none)→Q v H'
theorem Own.pure{n:Nat}{v:V}{d:D}{f:List Addr}{G H G' H':Hp}(x:Ext G H G' H')(o:Own Z G' H' n v d f)(nw:∀b∈f,H b=none∧H' b≠none∧G' b=none):∃G2,Ext G H G2 H'∧Dv Z G2 v d:=by
 refine ⟨plus G' H' λb=>b∈f,⟨x.gg.trans (fF x.sub),gw x.sub,x.hh,λb hb hg=>?_⟩,o.dv (fF x.sub) λb hb u e=>by rw [jQ hb];exact e⟩
 rw [iy (λz=>hb (nw b z).1)];exact x.off b hb hg
theorem Ea{n:Nat}{sd:dD}:∀vs H Q E,aV Z sd vs H Q E→lY Z n sd vs H Q E:=by
 rintro vs H Q E ⟨G,ds,P,s,dv,h,q⟩;exact ⟨G,ds,P,s,dv,h,λd hd v f G' H' x o nd nw=>let ⟨G2,x2,yZ⟩:=o.pure x nw;q d hd v G2 H' x2 yZ⟩
theorem mY(rn:Nat){x qual:Str}{st:Stmt}{f:Addr}{fd:FuncData}{N ps:List Str}{k:Nat}{sd:dD}(F:vO K x qual st f fd)(S:aI N ps (av st))(md:List Nat)(OA:∀i,i<ps.length→md.getD i 0=0)(len:∀ds P,sd ds P→ds.length=ps.length)
  (oE:∀(bF:Value)(A:Around)(outer:List Env)(s:Shared)(H:Hp)(E:XK)(ds:List D)(R:D→Prop),cC k (A.deeper (envOfC qual (av st) s.heap.objs.size f bF))→sd ds R→
   ∃t,tH Z (rM cO P w K mg base N qual (av st) f bF A outer s H E).jq md rn (fk st) t∧t {nx:=λ_=>rn=0∧R .bf,rt:=R} (tF N ds)):FnOk P w K mg base cO (k+1) f fd ps (lY Z rn sd):=by
 refine F.ok S (λvs H Q E h=>?_) (λbF A outer s H vs Q E hr h=>?_)
 ·obtain ⟨G,ds,R,s,dv,h,q⟩:=h
  rw [dv.length];exact len _ _ h
 obtain ⟨G,ds,R,s0,dv,h,q⟩:=h;have Sl:=q;obtain ⟨t,ht,hq⟩:=oE bF A outer s H E ds R hr h;have hl:=len _ _ h;refine ⟨_,ht,⟨G,H,G⟩,_,_,⟨G,λ_=> [],?_⟩,hq,⟨λρ Su aw H' ⟨G',fp,S'⟩=>q _ Su.2 _ [] G' H' S'.ex (by rw [Su.1];exact ⟨.bf,rfl⟩) kW (λb hb=>by cases hb),Sl,λ_ z=>z.elim,λ_ z=>z.elim⟩⟩
 refine ⟨.refl s0, .refl _,by unfold tF start;simp [dv.length],λi d hi=>?_,λ_=>kW,(λ_ _ _ _ z=>by cases z),(λ_ _ z=>by cases z)⟩
 unfold tF at hi
 have R5:i<ds.length:=by
  apply Classical.byContradiction;intro z;rw [fZ (by simpa using n9 z),Az] at hi
  split at hi<;>cases hi
 rw [eB (by simpa using R5),fc] at hi
 have nE:ds[i]? =some d:=by
  cases z:ds[i]? with
  |none=>rw [z] at hi;cases hi
  |some d'=>rw [z] at hi;cases hi;rfl
 obtain ⟨v,hv,yY⟩:=dv.get nE;refine ⟨v,?_,by rw [OA i (by omega)];exact ⟨yY,rfl⟩⟩
 unfold start;rw [eB (by simpa [dv.length] using R5),fc,hv];rfl
theorem br{x qual:Str}{st:Stmt}{f:Addr}{fd:FuncData}{N ps:List Str}{k:Nat}{sd:dD}(F:vO K x qual st f fd)(S:aI N ps (av st))(md:List Nat)(OA:∀i,i<ps.length→md.getD i 0=0)(len:∀ds P,sd ds P→ds.length=ps.length)
  (oE:∀(bF:Value)(A:Around)(outer:List Env)(s:Shared)(H:Hp)(E:XK)(ds:List D)(R:D→Prop),cC k (A.deeper (envOfC qual (av st) s.heap.objs.size f bF))→sd ds R→
   ∃t,tH Z (rM cO P w K mg base N qual (av st) f bF A outer s H E).jq md 0 (fk st) t∧t {nx:=λ_=>0=0∧R .bf,rt:=R} (tF N ds)):FnOk P w K mg base cO (k+1) f fd ps (aV Z sd):=
 (mY 0 F S md OA len λbF A outer s H E ds R hr h=>let ⟨t,a,b⟩:=oE bF A outer s H E ds R hr h;⟨t,a,b⟩).imp Ea
end
section
variable {Z:DC} {X:Cx} {a b c e o:Expr} {ta tb te:aT} {t:iC} {es:List Expr} {pos apos:Pos}
def Q1(ta:aT):aT:=λρ P=>ta ρ λd=>match d with
 | .int i=>P (.int (-i))
 |_=>False
theorem EB(ha:DE Z X a ta):DE Z X (.UnaryOp .USub a pos) (Q1 ta):=by
 refine (Pa LS ha).imp ?_;rintro σ H Q ⟨G,ρ,P,s,en,h,q⟩;refine ⟨G,ρ,_,s,en,h,λd hd v G1 H1 x1 dv=>?_⟩;cases dv<;>first|exact hd.elim|skip
 exact ⟨_,rfl,q _ hd _ G1 H1 x1 (.int _)⟩
theorem t7{G:Hp}:∀{vs:List V}{ns:List Int},ar Z G vs (ns.map D.int)→vs=ns.map V.int
 |vs,[],h=>by cases h;rfl
 |vs,b::bs,h=>by
  cases h with
  |cons a as=>cases a;rw [t7 as];rfl
def yK:dD:=λds P=>∃ns:List Int,ds= [.lst (ns.map D.int)]∧ns.length<64∧∀ms:List Int,ms.Perm ns→ms.Pairwise (·≤·)→P (.lst (ms.map D.int))
theorem qF:dU X (.builtin "sorted") (kd Z yK):=by
 refine vT.imp ?_;rintro xs H Q ⟨G,ds,P,s,dv,⟨ns,rfl,hl,hp⟩,q⟩;cases dv with
 |cons a as=>
  cases as;cases a with
  |lst h e=>
   refine ⟨_,ns,rfl,cp.of (by rw [←t7 e];exact s _ _ h),hl,λp ms hn h1 h2=>?_⟩
   exact q _ (hp ms h1 h2) _ _ _ (.new s hn) (.lst ax (.ints ms))
def pairD(k:Nat×Nat):D:= .tup [.int (k.1:Nat), .int (k.2:Nat)]
def J8:dD:=λds P=>∃ns:List (Nat×Nat),ds= [.lst (ns.map pairD)]∧ns.length≤1000∧∀ms:List (Nat×Nat),ms.Perm ns→ms.Pairwise Wb.lexLe→P (.lst (ms.map pairD))
theorem wH{G:Hp}:∀{vs:List V}{ns:List (Nat×Nat)},ar Z G vs (ns.map pairD)→∃L:List (Addr×(Nat×Nat)),vs=L.map (λe=>V.ref e.1)∧L.map (·.2)=ns∧Cs G L
 |vs,[],h=>by cases h;exact ⟨[],rfl,rfl,λp hp=>by cases hp⟩
 |vs,n::ns,h=>by
  cases h with
  |cons a as=>
   obtain ⟨L,h1,h2,h3⟩:=wH as;unfold pairD at a;cases a with
   | @tup p xs ds hp e=>
    refine ⟨(p,n)::L,by rw [h1];rfl,by rw [←h2];rfl,λq hq=>?_⟩
    rcases cn.mp hq with rfl|hq
    ·have:xs=q0 n:=by
      cases e with
      |cons a1 a2=>
       cases a2 with
       |cons b1 b2=>cases a1;cases b1;cases b2;rfl
     rw [←this];exact hp
    ·exact h3 q hq
theorem Cs.dv{G:Hp}:∀{L:List (Addr×(Nat×Nat))},Cs G L→ar Z G (L.map λe=>V.ref e.1) ((L.map (·.2)).map pairD)
 | [],_=> .nil
 |x::L,h=> .cons (.tup (h x (cB ..)) (.cons (.int _) (.cons (.int _) .nil))) (Cs.dv λp hp=>h p (cI _ hp))
theorem Fy:dU X (.builtin "sorted") (kd Z J8):=by
 refine vU.imp ?_;rintro xs H Q ⟨G,ds,P,s,dv,⟨ns,rfl,hl,hp⟩,q⟩;cases dv with
 |cons a as=>
  cases as;cases a with
  | @lst p oX ds h e=>
   obtain ⟨L,rfl,h2,h3⟩:=wH e;have hL:L.length=ns.length:=by rw [←h2];simp
   refine ⟨_,L,rfl,cp.of (s _ _ h),λp hp=>s _ _ (h3 p hp),by omega,λp M hn m1 m2=>?_⟩
   have pm:(M.map (·.2)).Perm ns:=by rw [←h2];exact m1.map _
   have hM:Cs (upd G p (.lst (M.map λe=>V.ref e.1))) M:=λx hx=>aQ (s.free hn) _ _ _ (h3 x (m1.mem_iff.mp hx));exact q _ (hp _ pm m2) _ _ _ (.new s hn) (.lst ax hM.dv)
def Kd(ta tb:aT):aT:=λρ P=>ta ρ λd=>∃l,d= .lst l∧tb ρ λy=>fi y=true∧l.all fi=true∧∃(j:Nat)(z:D),l[j]? =some z∧i9 z y=true∧(∀(m:Nat) z,m<j→l[m]? =some z→i9 z y=false)∧P (.int (j:Nat))
theorem mV{aR:Pos}(ho:DE Z X o ta)(he:DE Z X e tb)
  (dE:attributeBase o "index" X.env (eval o X.env)=eval o X.env:=by rfl)
  (iH:((backTo aR (starEach [e] X.env)).all (λx=>!x.1)&&(backToKw aR (keywordEach [] X.env)).all (λx=>x.1.isSome)&&decide (([e]:List Expr).length+([]:List Keyword).length+(if ([]:List Keyword).isEmpty then 0 else 1)<30))=true:=by rfl)
  (cz:(apos.endLine==aR.line)=true:=by rfl) (hs:starEach [e] X.env=(false,eval e X.env)::starEach [] X.env:=by rfl) (dF:(backTo aR (starEach [] X.env)).any (·.1)=false:=by rfl):
  DE Z X (.Call (.Attribute o "index" apos) [e] [] aR) (Kd ta tb):=by
 refine (uN PySem.F.plainAttrs_list PySem.F.slot_list_index PySem.F.type_list_index Gb ho (dO he ig hs) dE iH cz hs dF).imp ?_;rintro σ H Q ⟨G,ρ,P,s,en,h,q⟩;refine ⟨G,ρ,_,s,en,h,?_⟩;rintro _ ⟨l,rfl,hd⟩ v G1 H1 x1 dv;cases dv with
 | @lst p xs ds hp e=>
  refine ⟨ty_list (x1.sub _ _ hp),G1,ρ,_,x1.sub,en.mono x1.gg,hd,λy hy u G2 H2 x2 du=>?_⟩;obtain ⟨h1,h2,j,z,h3,h4,h5,h6⟩:=hy;have e2:=e.mono x2.gg;obtain ⟨w,hw,dw⟩:=e2.get h3;refine ⟨p,xs,u,j,w,rfl,rfl,x2.hh _ _ (x1.sub _ _ hp),by rw [pE du];exact h1,by rw [ja e2];exact h2,hw,by rw [y2 dw du];exact h4,λm z' hm hz=>?_,q _ h6 _ G2 H2 (x1.trans x2) (.int _)⟩
  obtain ⟨d',nE,yY⟩:=e2.EK hz;rw [y2 yY du];exact h5 m d' hm nE
end
structure Ex (Z:DC):Prop where
 cl:tG Z.K Z.C
 nR:jZ Z.K Z.C "rows"
section
variable {Z:DC} {X:Cx} {a b c e o:Expr} {ta tb te:aT} {t:iC} {es:List Expr} {pos apos:Pos}
def NH(ta:aT):aT:=λρ P=>ta ρ λd=>∃w,d= .eE w∧P (aN w)
theorem t6(T:Ex Z)(ha:DE Z X o ta)(eK:X.K=Z.K:=by rfl)(hb:attributeBase o "rows" X.env (eval o X.env)=eval o X.env:=by rfl):DE Z X (.Attribute o "rows" apos) (NH ta):=by
 refine (Ll ha hb).imp ?_;rintro σ H Q ⟨G,ρ,P,s,en,h,q⟩;refine ⟨G,ρ,_,s,en,h,?_⟩;rintro _ ⟨w,rfl,hd⟩ v G1 H1 x1 dv;cases dv with
 | @eE p dx R w hp hr g h1 h2=>exact ⟨p,Z.C,dx,_, .ref R,rfl,x1.sub _ _ hp,by rw [eK];exact T.cl,by rw [eK];exact T.nR,rfl,q _ hd _ G1 H1 x1 hr⟩
def Cz(sd:dD)(ta:aT)(t:iC):aT:=λρ P=>ta ρ λd=>∃w,d= .eE w∧t ρ λds=>sd (.eE w::ds) P
theorem wZ{m:Str}{sd:dD}(hm:([("rows",V.ref 0)]:List (Str×V)).lookup m=none):∀σ H Q,cX Z (Cz sd ta t) σ H Q→Ee Z.C m (aV Z sd) [] E0 (cX Z ta) (Di Z t) σ H Q:=by
 rintro σ H Q ⟨G,ρ,P,s,en,h,q⟩;refine ⟨G,ρ,_,s,en,h,?_⟩;rintro _ ⟨w,rfl,hd⟩ v G1 H1 x1 dv;have W2:=dv;cases dv with
 | @eE p dx R w hp hr g h1 h2=>
  refine ⟨p,dx,_,rfl,x1.sub _ _ hp,?_,G1,ρ,_,x1.sub,en.mono x1.gg,hd,λds FO vs G2 H2 x2 bo=>?_⟩
  ·have hz:(m==("rows":Str))=false:=by
    cases z:(m==("rows":Str)) with
    |false=>rfl
    |true=>simp [List.lookup,z] at hm
   simp [List.lookup,hz]
  ·show aV Z sd (V.ref p::(vs++ [])) H2 Q E0
   rw [hJ];exact ⟨G2,_,P,x2.sub, .cons (W2.mono x2.gg) bo,FO,λd hd v G3 H3 x3 W3=>q d hd v G3 H3 ((x1.trans x2).trans x3) W3⟩
variable {sd:dD} {k:Nat} {f:Addr} {fd:FuncData} {ps:List Str} {m:Str}
theorem Hv{pl:Sem Bool}(T:Ex Z)(ho:DE Z X o ta)(hm:Meth Z.K Z.C m f)(F:FnOk X.prog X.w X.K X.mg X.base cO k f fd ps (aV Z sd))(hr:cC k X.A)(hb:Binds X.K fd ps [])(ha:DA Z X (e::es) t)(eK:X.K=Z.K:=by rfl)
  (C1:([("rows",V.ref 0)]:List (Str×V)).lookup m=none:=by decide) (jG:starEach (e::es) X.env=(false,eval e X.env)::starEach es X.env:=by rfl) (eU:(backTo pos (starEach es X.env)).any (·.1)=false:=by rfl)
  (ht:eval (.Call (.Attribute o m apos) (e::es) [] pos) X.env=(do
   let ov ←eval o X.env
   standAt apos.atName
   let (f,first) ←holding [ov] (getMethod ov m pl)
   callWith pos f first (backTo pos (starEach (e::es) X.env)) (backToKw pos (keywordEach [] X.env))):=by rfl):DE Z X (.Call (.Attribute o m apos) (e::es) [] pos) (Cz sd ta t):=
 (Jb (pl:=pl) ho (by rw [eK];exact T.cl) (by rw [eK];exact hm) F hr hb .nil zF ha jG eU ht).imp (wZ C1)
theorem wy{pl:Sem Bool}(T:Ex Z)(ho:DE Z X o ta)(hm:Meth Z.K Z.C m f)(F:FnOk X.prog X.w X.K X.mg X.base cO k f fd ps (aV Z sd))(hr:cC k X.A)(hb:Binds X.K fd ps [])(eK:X.K=Z.K:=by rfl)
  (C1:([("rows",V.ref 0)]:List (Str×V)).lookup m=none:=by decide)
  (ht:eval (.Call (.Attribute o m apos) [] [] pos) X.env=(do
   let ov ←eval o X.env
   standAt apos.atName
   let (f,first) ←holding [ov] (getMethod ov m pl)
   callWith pos f first (backTo pos (starEach [] X.env)) (backToKw pos (keywordEach [] X.env))):=by rfl):DE Z X (.Call (.Attribute o m apos) [] [] pos) (Cz sd ta pd):=
 (Gk (pl:=pl) ho (by rw [eK];exact T.cl) (by rw [eK];exact hm) F hr hb .nil zF ht).imp λσ H Q h=>by
  obtain ⟨G,ρ,P,s,en,h,q⟩:=wZ C1 σ H Q h;refine ⟨G,ρ,P,s,en,h,λd hd v G1 H1 x1 dv=>?_⟩;obtain ⟨p,dx,fs,h1,h2,h3,G',aA,P',s',en',h',q'⟩:=q d hd v G1 H1 x1 dv;exact ⟨p,dx,fs,h1,h2,h3,q' _ h' _ G' _ (.refl s') .nil⟩
def B5(Z:DC):Sp:=λvs H Q _=>∃(p dx:Addr)(v:V)(G:Hp)(w:List (List Nat)),vs= [.ref p,v]∧H p=some (.ins Z.C dx [])∧aH G H∧G p=none∧Dv Z G v (aN w)∧Wb.Good w∧1≤w.length∧w.length≤14∧
 ∀(R:Addr)(G' H':Hp),aH G G'→aH G' H'→(∀b o,H b=some o→b≠p→H' b=some o)→(∀b,H b≠none→G b=none→G' b=none)→H' p=some (.ins Z.C dx [("rows", .ref R)])→Dv Z G' (.ref R) (aN w)→Q .bf H'
def Nz(t:iC):aT:=λρ P=>t ρ λds=>∃w,ds= [aN w]∧Wb.Good w∧1≤w.length∧w.length≤14∧P (.eE w)
theorem Hu{x:Str}{p:Pos}(M:Mk Z.K Z.C f)(F:FnOk X.prog X.w X.K X.mg X.base cO k f fd ps (B5 Z))(hr:cC (k+1) X.A)(hg:Gl X x)(hm:X.mg x=some (.ref Z.C))(hb:Binds X.K fd ps [])
  (ha:DA Z X (e::es) t) (eK:X.K=Z.K:=by rfl) (lS:(x==("__debug__":Str))=false:=by decide) (he:starEach (e::es) X.env=(false,eval e X.env)::starEach es X.env:=by rfl) (eU:(backTo pos (starEach es X.env)).any (·.1)=false:=by rfl):
  DE Z X (.Call (.Name x p) (e::es) [] pos) (Nz t):=by
 refine (Ja (by rw [eK];exact M) F hr hg hm hb .nil zF ha lS he eU).imp ?_
 rintro σ H Q ⟨G,ρ,P,s,en,h,q⟩;refine ⟨G,ρ,_,s,en,h,?_⟩;rintro _ ⟨w,rfl,g,h1,bE,hp⟩ vs G1 H1 x1 bo p dx hx Xv ne;cases bo with
 | @cons v _ _ _ dv bo=>
  cases bo;have OJ:upd H1 dx (.own p) p=none:=by rw [aF (Ne.symm ne)];exact hx
  have sJ:=(aQ Xv (.own p)).trans (aQ OJ (.ins Z.C dx []));refine ⟨p,dx,v,G1,w,rfl,ax,x1.sub.trans sJ,x1.sub.free hx,dv,g,h1,bE,λR G2 H2 g1 g2 kp off XY yZ=>⟨rfl,?_⟩⟩;have gp:G2 p=none:=off p (by rw [ax];exact λz=>nomatch z) (x1.sub.free hx)
  refine q _ hp _ (upd G2 p (.ins Z.C dx [("rows", .ref R)])) H2 ⟨(x1.gg.trans g1).trans (aQ gp _),λb o e=>?_,λb o e=>?_,λb hb hg=>?_⟩ (.eE ax (yZ.mono (aQ gp _)) g h1 bE)
  ·by_cases z:b=p
   ·subst z;rw [ax] at e;cases e;exact XY
   ·rw [aF z] at e;exact g2 _ _ e
  ·have e1:=x1.hh _ _ e
   exact kp b o (sJ _ _ e1) (aW e1 hx)
  ·have Ks:=dQ x1.hh hb
   have nb:b≠p:=λz=>Ks (by rw [z];exact hx)
   rw [aF nb];exact off b (dQ sJ Ks) (x1.off b hb hg)
end
section
variable {Z:DC} {X:Cx} {pos:Pos}
variable {tg iter elt:Expr} {scope:Scope} {NC:List Str} {src:List (Option Nat)} {wi:gy} {g:di} {tf:lA} {md:List Nat} {rn:Nat}
end
abbrev iu:=inClass
structure Cr (Z:DC) (m qual:Str) (st:Stmt) (ps:List Str) where
 f:Addr
 fd:FuncData
 F:vO Z.K m qual st f fd
 b:Binds Z.K fd ps []
 m:Meth Z.K Z.C m f
def qk(K:PySem.W.Frag):Sp:=λvs H Q _=>∃(a:Addr)(ns:List Int),vs= [.ref a]∧cp K H a (ns.map V.int)∧ns.length≤63∧∀H',Q (.bl true) H'
def Fm:dD:=λds P=>∃ns:List Int,ds= [.jW ns]∧ns.length≤63∧P (.bl true)
theorem KU{Z:DC}:∀vs H Q E,qk Z.K vs H Q E→aV Z Fm vs H Q E:=by
 rintro vs H Q E ⟨a,ns,rfl,hS,hl,q⟩;exact ⟨H,[.jW ns],λd=>d= .bl true, .refl _, .cons (.jW hS hl) .nil,⟨ns,rfl,hl,rfl⟩,λd hd v G' H' x dv=>by subst hd;cases dv;exact q H'⟩
theorem PL(k:Nat){l:PySem.W.OpenLaw}{q:Program}{loose:List Str}{XP:(Str→Option Value)→Heap→Prop}{YP:World→Heap→Prop}{d:DefRec}{K:Params→PySem.W.Frag}(Bl:3*k<150)(hn:l.most=some 63)(CV:d.params.defaults= [])
  (hY:∀(w:World)(h:Heap),YP w h→(K w.params).In h)
  (F:∀(w:World)(mg:Str→Option Value)(fa:Addr)(h:Heap),(K w.params).In h→h.Ns mainGlobals mg→mg d.name=some (.ref fa)→
   ∃fd:FuncData,(∀(s:Shared)(u:Value),BindsTo s fd ⟨[u],[]⟩ [("_law_script",u)])∧∀base:Heap,(K w.params).In base→base.Ns mainGlobals mg→FnOk l.prog w (K w.params) mg base cO k fa fd ["_law_script"] (qk (K w.params))):
  PySem.W.WalkO q loose XP YP l.row.toRowW d [] (λf vs=>PySem.call f vs):=
 L2.JV (n:=63) (k:=50) (x:="_law_script") (CX:=λ_=>cO) (sp:=λw=>qk (K w.params)) hn (by decide) CV ⟨rfl,by decide,by decide⟩ hY (λw mg fa h a b c=>by
  obtain ⟨fd,h1,h2⟩:=F w mg fa h a b c;exact ⟨fd,h1,λbase x y=>(h2 base x y).mono (by omega)⟩) (λ_ _ a ns hl _ hS=>⟨a,ns,rfl,hS,hl,λ_=>rfl⟩) λ_ _ _ _ _ z=>z
theorem eo{c:Bool}{A B:Prop}(h1:c=true→A)(h2:c=false→B):if c=true then A else B:=by
 cases c with
 |true=>exact cM (h1 rfl)
 |false=>exact cF (h2 rfl)
theorem lV{i:Nat}{tt:cU}{te:aT}{ρ:DN}{α:Type}(enc:α→D)(p:α→Bool)(f:α→D):∀(ys:List α)(aA:DN)(acc:List D)(N:DN→List D→Prop),(∀y∈ys,∀(Y:D→Prop)(Nn:Prop),(p y=true→Y (f y))→(p y=false→Nn)→tt (ρ.set i (some (enc y))) λb=>if b=true then te (ρ.set i (some (enc y))) Y else Nn)→
  (∃o,aA=ρ.set i o)→acc.length+ys.length≤sizeLine→(∀aA,N aA (acc++(ys.filter p).map f))→lcW (tu i) tt te (ys.map enc) aA acc N
 | [],aA,acc,N,_,_,_,h=>by
  show N aA acc;simpa using h aA
 |y::ys,aA,acc,N,hs,⟨o,ho⟩,hz,h=>by
  show tt (aA.set i (some (enc y))) _;rw [ho,List.set_set];rw [dh] at hz;refine hs y (cB ..) _ _ (λhp=>⟨by omega,?_⟩) (λhp=>?_)
  ·refine lV enc p f ys _ (acc++ [f y]) N (λz hz=>hs z (cI _ hz)) ⟨_,rfl⟩ (by simp;omega) λvL=>?_
   have:=h vL
   rw [List.filter_cons,hp] at this;simpa using this
  ·refine lV enc p f ys _ acc N (λz hz=>hs z (cI _ hz)) ⟨_,rfl⟩ (by omega) λvL=>?_
   have:=h vL
   rw [List.filter_cons,hp] at this;simpa using this
theorem j9{i:Nat}{te:aT}{ρ:DN}{α:Type}(enc:α→D)(f:α→D)(ys:List α)(N:DN→List D→Prop)(hs:∀y∈ys,∀(Y:D→Prop),Y (f y)→te (ρ.set i (some (enc y))) Y)(h0:ρ[i]? =some none)(hz:ys.length≤sizeLine)(h:∀aA,N aA (ys.map f)):lcW (tu i) nO te (ys.map enc) ρ [] N:=by
 refine lV (ρ:=ρ) enc (λ_=>true) f ys ρ [] N (λy hy Y Nn h1 _=>?_) ⟨none,?_⟩ (by simpa using hz) λaA=>by rw [List.filter_eq_self.mpr (λ_ _=>rfl),mN];exact h aA
 ·unfold nO
  dsimp only;rw [if_pos rfl];exact hs y hy Y (h1 rfl)
 ·obtain ⟨hi,e⟩:=eO.mp h0
  rw [←e,List.set_getElem_self]
theorem wL{g:di}{tb:dW}{E:gQ}(I:Nat→DN→Prop):∀(ds:List D)(k:Nat)(ρ:DN),I k ρ→(∀(j:Nat)(d:D)(ρ:DN),ds[j]? =some d→I (k+j) ρ→∀A:DN→Prop,(∀ρ,I (k+j+1) ρ→A ρ)→g d ρ λaU=>tb {nx:=A,ct:=A,bk:=E.nx,rt:=E.rt} aU)→
  (∀ρ,I (k+ds.length) ρ→E.nx ρ)→lP g tb E ds ρ
 | [],k,ρ,h0,hs,he=>he ρ h0
 |d::ds,k,ρ,h0,hs,he=>by
  refine hs 0 d ρ rfl h0 _ λaA h'=>?_
  exact wL I ds (k+1) aA h' (λj d' cq hj h2 A hA=>by
   refine hs (j+1) d' cq (by simpa using hj) (by rw [show k+(j+1)=k+1+j by omega];exact h2) A λPQ h3=>hA PQ ?_
   rw [show k+1+j+1=k+(j+1)+1 by omega];exact h3) (λcq h2=>he cq (by rw [dh,show k+(ds.length+1)=k+1+ds.length by omega];exact h2))
theorem dJ{g:di}{tb:dW}{E:gQ}{ds:List D}{ρ:DN}(I:Nat→DN→Prop)(h0:I 0 ρ)(hs:∀(j:Nat)(d:D)(ρ:DN),ds[j]? =some d→I j ρ→∀A:DN→Prop,(∀ρ,I (j+1) ρ→A ρ)→g d ρ λaU=>tb {nx:=A,ct:=A,bk:=E.nx,rt:=E.rt} aU)
  (he:∀ρ,I ds.length ρ→E.nx ρ):lP g tb E ds ρ:=wL I ds 0 ρ h0 (λj d ρ hj h A hA=>hs j d ρ hj (by simpa using h) A λaA h'=>hA aA (by simpa using h')) (λρ h=>he ρ (by simpa using h))
theorem Be{g:di}{tb:dW}{E:gQ}{lo:Int}{n:Nat}{ρ:DN}(I:Nat→DN→Prop)(h0:I 0 ρ)(hs:∀(j:Nat)(ρ:DN),j<n→I j ρ→∀A:DN→Prop,(∀ρ,I (j+1) ρ→A ρ)→g (.int (lo+j)) ρ λaU=>tb {nx:=A,ct:=A,bk:=E.nx,rt:=E.rt} aU)
  (he:∀ρ,I n ρ→E.nx ρ):lP g tb E (eY lo n) ρ:=by
 have l:(eY lo n).length=n:=by unfold eY;simp
 refine dJ I h0 (λj d ρ hj h A hA=>?_) (λρ h=>he ρ (by rw [l] at h;exact h))
 have bN:j<n:=by
  have:=(eO.mp hj).1
  rw [l] at this;exact this
 rw [rW bN] at hj;cases hj;exact hs j ρ bN h A hA
theorem vd{c:cU}{tb:dW}{E:gQ}{ρ:DN}(I:Nat→DN→Prop)(m0:Nat)(h0:I m0 ρ)(hs:∀m ρ,I m ρ→c ρ λb=>if b=true then tb {nx:=λaA=>∃m',m'<m∧I m' aA,ct:=λaA=>∃m',m'<m∧I m' aA,bk:=E.nx,rt:=E.rt} ρ else E.nx ρ):Ez c tb E ρ:=⟨I,⟨m0,h0⟩,hs⟩
theorem yL:bootBuiltins "reversed"=some (.type "reversed"):=by decide+kernel
section
variable {Z:DC} {X:Cx} {a b c e:Expr} {ta tb te:aT} {t:iC} {pos:Pos}
variable {md:List Nat} {rn:Nat} {k:Expr} {tk:aT}
variable {apos aR:Pos}
variable {es:List Expr}
end
section
variable {X:Cx} {elt t0 i0 t1 i1:Expr} {f0 f1:List Expr} {scope:Scope} {pos:Pos} {wi cH:TI} {g g1:TG} {tt cg:TT} {te:TE} {src:List (Option Nat)} {NC:List Str}
theorem yQ{pins:List (Addr×Obj)}{σ:St}{s2:Shared}{H2:Hp}{it:Addr}{fp:List Addr}{tn:Nat→Heap→Prop}{J:It}{RR:Value→Addr→Result→Shared→Prop}{E:Value→Shared→Prop}{Q:VK}
  (hc:X.calm=true) (c:bY X scope) (dZ:cP scope X.N src NC) (I2:Inv X pins σ H2 s2) (T:Turn X.prog X.w X.K t0 J fp it tn) (jA:tn 0 s2.heap) (f2:∀b∈fp,e7 X pins H2 b)
  (hg:∀ex s H,PG (cc X scope NC ex s H) t0 g) (ht:∀ex s H,lE (cc X scope NC ex s H) f0 tt) (sO:∀ex s H,PI (cc X scope NC ex s H) t1 i1 cH) (CW:∀ex s H,PG (cc X scope NC ex s H) t1 g1)
  (C5:∀ex s H,lE (cc X scope NC ex s H) f1 cg) (he:∀ex s H,PE (cc X scope NC ex s H) elt te) (v7:∀env x,foldedSetIterable i1 env x=pure x)
  (hW:∀D,H2 D=none→MW g tt cH g1 cg te D J Q (kO src σ) (upd H2 D (.lst [])))
  (N9:∀D s3 H3 aw H' s',Inv X pins σ H3 s3→(∀b∈fp,e7 X pins H3 b)→Inv (cc X scope NC fp s3 H3) [] aw H' s'→Q (.ref D) H'→RR (.ref D) s3.heap.objs.size (.ok .next) s'):
  wpAny (model X.prog X.w) X.A (newList []) (λacc JO=>wpAny (model X.prog X.w) X.A (newFunctionEnv scope X.env.globals (g5 X.env scope.names []) [] X.env.qual none .none (some X.env)) (λlK u7=>
   codeAny (model X.prog X.w) X.A (.compStart (.ListComp elt [⟨t0,i0,f0,0⟩,⟨t1,i1,f1,0⟩] scope pos) 0 (.ref it) acc {lK with scope:=relabel scope X.env}) (RR acc lK.locals) u7) E JO) E s2:=by
 obtain ⟨W,⟨m0,w0⟩,turn⟩:=hW s2.heap.objs.size I2.fresh;have I3:Inv X pins σ (upd H2 s2.heap.objs.size (.lst [])) {s2 with heap:=s2.heap.push {cls:= .type "list",data:= .seq ([]:List Value).toArray}}:=I2.ES (its:= []) (t':=s2.toks) .nil (cw _)
 have F8:∀b∈fp,b<s2.heap.objs.size:=λb hb=>by
  obtain ⟨o,e,_⟩:=T.obj _ _ jA b hb;exact Heap.lt_size e
 have f3:∀b∈fp,e7 X pins (upd H2 s2.heap.objs.size (.lst [])) b:=λb hb=>⟨by rw [aF (bQ (F8 b hb))];exact (f2 b hb).1,(f2 b hb).2⟩
 refine wpAny_newObj_type ?_
 suffices key:∀s3:Shared,Inv X pins σ (upd H2 s2.heap.objs.size (.lst [])) s3→(∀b o,s2.heap.get? b=some o→s3.heap.get? b=some o)→
   wpAny (model X.prog X.w) X.A (newFunctionEnv scope X.env.globals (g5 X.env scope.names []) [] X.env.qual none .none (some X.env)) (λlK u7=>
    codeAny (model X.prog X.w) X.A (.compStart (.ListComp elt [⟨t0,i0,f0,0⟩,⟨t1,i1,f1,0⟩] scope pos) 0 (.ref it) (.ref s2.heap.objs.size) {lK with scope:=relabel scope X.env}) (RR (.ref s2.heap.objs.size) lK.locals) u7) E s3 from
  key _ I3 λb o e=>Heap.get?_push_of_some _ e
 intro s3 I3 PK;have sU:tn 0 s3.heap:=T.keep _ _ _ jA λb _ o e=>PK b o e
 have Dl:∀b∈fp,b<s3.heap.objs.size:=λb hb=>by
  obtain ⟨o,e,_⟩:=T.obj _ _ sU b hb;exact Heap.lt_size e
 generalize Xj:upd H2 s2.heap.objs.size (.lst [])=H3 at I3 f3 w0;refine wpAny_newFunctionEnv c.nocell (by intro y hy;simp at hy) (λh1 zf zh=>?_) c.kind
 have I4:=wq (src:=src) (NC:=NC) (ex:=fp) (tk:=s3.toks+([]:List (Str×Value)).length) I3 c dZ f3 Dl zf zh;have JM:tn 0 h1:=T.keep _ _ _ sU λb hb o e=>zh.extBut b o (bQ (Dl b hb)) (Heap.get?_push_of_some _ e);generalize hX:cc X scope NC fp s3 H3=XC at I4
 have stat:∀{H':Hp},(∀b∈fp,H' b=none)→∀b∈fp,e7 XC [] H' b:=λ {H'} hn b hb=>by
  subst hX;refine ⟨hn b hb,bQ (Dl b hb),λz=>?_, .inl hb,λx d e=>?_,λp hp=>absurd (show p∈([]:List (Addr×Obj)) from hp) (by simp)⟩
  ·exact (I4.ok.exfs b hb) z
  ·exact (I4.ok.exf b hb).2 x d e
 have FN:XC.calm=true:=by subst hX;exact hc
 have eP:XC.prog=X.prog:=by subst hX;rfl
 have ew:XC.w=X.w:=by subst hX;rfl
 have eK:XC.K=X.K:=by subst hX;rfl
 have eA:XC.A=X.A:=by subst hX;rfl
 have KA:XC.xe=λ_ _=>False:=by subst hX;rfl
 have Ov:PG XC t0 g:=by subst hX;exact hg _ _ _
 have OG:lE XC f0 tt:=by subst hX;exact ht _ _ _
 have XB:PI XC t1 i1 cH:=by subst hX;exact sO _ _ _
 have RZ:PG XC t1 g1:=by subst hX;exact CW _ _ _
 have So:lE XC f1 cg:=by subst hX;exact C5 _ _ _
 have Oo:PE XC elt te:=by subst hX;exact he _ _ _
 have jq:∀{α:Type}{t:Sem α}{Q:α→Shared→Prop}{E:Value→Shared→Prop}{s:Shared},wpAny (model XC.prog XC.w) XC.A t Q XC.xe s→wpAny (model X.prog X.w) X.A t Q E s:=λ {α t Q E s} h=>by
  rw [←eP,←ew,←eA];exact wpAny_mono h (λ_ _ q=>q) λ_ _ f=>by rw [KA] at f;exact f.elim
 have loop:codeAny (model X.prog X.w) X.A (.compLoop (.ListComp elt [⟨t0,i0,f0,0⟩,⟨t1,i1,f1,0⟩] scope pos) 0 (.ref it) (.ref s2.heap.objs.size) XC.env) (RR (.ref s2.heap.objs.size) s3.heap.objs.size)
   {s3 with heap:=h1,toks:=s3.toks+([]:List (Str×Value)).length}:=by
  refine codeAny_loop rfl (λn s'=>∃i aw H',Inv XC [] aw H' s'∧tn i s'.heap∧(∀b∈fp,H' b=none)∧W i n aw H') (λn s' hI=>?_) m0 ⟨0,_,_,I4,JM,λb hb=>(f3 b hb).1,w0⟩;obtain ⟨i,aw,H',I5,sV,vX,w5⟩:=hI;show wpAny _ X.A ((compTurn (.ListComp elt [⟨t0,i0,f0,0⟩,⟨t1,i1,f1,0⟩] scope pos) 0 (.ref it) (.ref s2.heap.objs.size) XC.env).onRaise (λx=>do noteFrame x XC.env;theTreesLotGoes x)) _ _ s'
  refine wpAny_noted ?_;rw [tU];refine wpAny_bind (wpAny_standAt (wpAny_bind ?_))
  rcases turn i n aw H' w5 with ⟨stop,qn⟩ | ⟨go,N,hN,step⟩
  ·have hd:=T.done XC eP ew eK FN i [] s' aw H' (notedBy (model X.prog X.w) X.A XC.env λe s'=>RR (.ref s2.heap.objs.size) s3.heap.objs.size (.error e) s') I5 (stat vX) sV stop
   rw [eA] at hd;refine thn hd λr s6 ⟨hr,I6⟩=>?_;subst hr;refine wpAny_pure ?_;subst hX;exact N9 _ s3 _ aw H' s6 I3 f3 I6 qn
  ·have hd:=T.item XC eP ew eK FN i [] s' aw H' (notedBy (model X.prog X.w) X.A XC.env λe s'=>RR (.ref s2.heap.objs.size) s3.heap.objs.size (.error e) s') I5 (stat vX) sV go
   rw [eA] at hd;refine thn hd λr s6 ⟨u,hr,h6⟩=>?_;subst hr;refine wpAny_bind (thn h6 λ_ s7 ⟨x,H7,I7,r7,y7,u6,HK⟩=>?_);have GP:=I7.pinned (stat HK) (T.obj _ _ u6)
   have nextT:∀{fO:St}{H8:Hp}{s8:Shared},Inv XC ([]++kr fp s7.heap) fO H8 s8→N fO H8→∃m,m<n∧∃i aw H',Inv XC [] aw H' s8∧tn i s8.heap∧(∀b∈fp,H' b=none)∧W i m aw H':=λ {fO H8 s8} I8 n8=>by
    obtain ⟨m',hm,w8⟩:=hN fO H8 n8;refine ⟨m',hm,i+1,fO,H8,I8.iA,T.keep _ _ _ u6 λb hb o e=>(I8.pin (b,o) (fE _ (fE _ (dB hb e)))).1,λb hb=>?_,w8⟩;obtain ⟨o,e,d⟩:=T.obj _ _ u6 b hb;exact (I8.pin (b,o) (fE _ (fE _ (dB hb e)))).2.1
   refine wpAny_bind (jq (thn (Ov _ s7 aw H7 x u _ GP r7 (step x H7 y7)) λ_ s8 ⟨fO,H8,I8,q8⟩=>?_));refine wpAny_bind (jq (thn (OG _ s8 fO H8 _ I8 q8) λb s9 ⟨H9,I9,q9⟩=>?_));cases b with
   |false=>
    rw [if_neg cN] at q9;exact wpAny_pure ⟨by subst hX;rfl,nextT I9 q9⟩
   |true=>
    rw [if_pos rfl] at q9;refine wpAny_bind (jq (thn (XB _ s9 fO H9 _ I9 q9) λv1 Ly Xf=>?_));refine wpAny_bind (wpAny_standAt (wpAny_bind (wpAny_of_eq (v7 _ v1) (wpAny_bind (wpAny_holding (jq (thn Xf λF1 Lz Xg=>?_)))))));obtain ⟨Bv,fp1,tn1,J1,J4,rfl,GN,T1,Vf,Xa,Bj⟩:=Xg;refine wpAny_bind (wpAny_runOwn ?_);have tr:∀(cd:Code)(R:Result→Shared→Prop),codeAny (model XC.prog XC.w) XC.A cd R Lz→codeAny (model X.prog X.w) X.A cd R Lz:=λcd R h=>by rw [eP,ew,eA] at h;exact h
    exact tr _ _ (AX KA FN GN T1 Vf Xa RZ So Oo Bj λaw H' s' VL Z7=>wpAny_pure ⟨by subst hX;rfl,nextT VL Z7⟩)
 subst hX;exact codeAny_compStart_list loop (T.self _ 0 _ _ _ JM loop)
def JP(wi:TI)(g:TG)(tt:TT)(cH:TI)(g1:TG)(cg:TT)(te:TE)(src:List (Option Nat))(i:Nat):TS:=λD σ H=>JQ wi g tt cH g1 cg te src σ H λv H'=>D.nx (σ.set i (some v)) H'
theorem uP{i:Nat}{x:Str}{px gK:Pos}(hc:X.calm=true)(hN:X.N.Nodup)(h7:X.N[i]? =some x)(hx:Loc X.env.scope x)(c:bY X scope)(dZ:cP scope X.N src NC)(hi:PI X t0 i0 wi)
  (hg:∀ex s H,PG (cc X scope NC ex s H) t0 g) (ht:∀ex s H,lE (cc X scope NC ex s H) f0 tt) (sO:∀ex s H,PI (cc X scope NC ex s H) t1 i1 cH) (CW:∀ex s H,PG (cc X scope NC ex s H) t1 g1)
  (C5:∀ex s H,lE (cc X scope NC ex s H) f1 cg) (he:∀ex s H,PE (cc X scope NC ex s H) elt te)
  (j7:swapsWith (.ListComp elt [⟨t0,i0,f0,0⟩,⟨t1,i1,f1,0⟩] scope pos) (some (.Name x px)) gK.line X.env=pure true)
  (hf:X.fn x=true∨X.env.scope.names.lookup x=some .local:=by first|exact .inl rfl|exact .inr rfl|assumption)
  (hs:∀x,foldedSetIterable i0 X.env x=pure x:=by intro _;rfl) (v7:∀env x,foldedSetIterable i1 env x=pure x:=by intro _ _;rfl):PS X (.Assign [.Name x px] (.ListComp elt [⟨t0,i0,f0,0⟩,⟨t1,i1,f1,0⟩] scope pos) gK) (JP wi g tt cH g1 cg te src i):=by
 intro pins s σ H D I h;rw [exec_Assign_Name_used _ _ _ _ j7];refine wpAny_bind (wpAny_standAt (wpAny_bind ?_));show wpAny _ X.A (do let _ ←comprehension (.ListComp elt [⟨t0,i0,f0,0⟩,⟨t1,i1,f1,0⟩] scope pos) scope X.env _ (newList []) false (eval i0 X.env) (some (assign (.Name x px) X.env))) _ _ s
 refine wpAny_bind (wpAny_mono (wpAny_comprehension_free (use:=some (assign (.Name x px) X.env)) (Q:=λ_ s'=>SP X pins D .next s') rfl hs (gn (c.cells I.ok)) c.kind c.names
  (thn (hi pins s σ H _ I h) λv s1 h1=>thn h1 λF1 s2 h2=>?_)) (λ_ s' hq=>wpAny_pure (wpAny_pure hq)) λ_ _ e=>e)
 obtain ⟨it,fp,tn,J,H2,rfl,I2,T,jA,f2,hW⟩:=h2;refine yQ (RR:=λacc C=>compPost (model X.prog X.w) X.A X.xe (some (assign (.Name x px) X.env)) (λ_ s'=>SP X pins D .next s') acc C) (Q:=λv H'=>D.nx (σ.set i (some v)) H') hc c dZ I2 T jA f2 hg ht sO CW C5 he v7 hW ?_;intro a s3 H3 aw H' s' I3 f3 J' q;obtain ⟨m,hn,_⟩:=J'.loc;have IX:Inv X pins σ H' s':=comp_back I3 f3 J' (.refl ..);show wpAny _ X.A (assign (.Name x px) X.env (.ref a)) _ _ _;have nL:s3.heap.objs.size≠X.env.locals:=Nat.ne_of_gt I3.lt
 have nc:∀y d,X.env.cells.lookup y=some d→d≠s3.heap.objs.size:=λy d e z=>by
  obtain ⟨v,hv⟩:=I3.cell y d e
  have:=hv.lt
  rw [z] at this;exact absurd this (gP _)
 have np:∀p∈X.pn++pins,p.1≠s3.heap.objs.size:=λp hp z=>by
  have:=Heap.lt_size (I3.pin p hp).1
  rw [z] at this;exact absurd this (gP _)
 obtain ⟨oC,es,ep,OD,CU,rC⟩:=id hn;have HQ:H' s3.heap.objs.size=none:=J'.free
 have IP:Inv X ((s3.heap.objs.size,oC)::pins) σ H' s':=IX.jP λp hp=>by
  rcases cn.mp hp with z|z
  ·rw [z]
   exact ⟨OD,HQ,nL,I3.IH (bx _),λv w=>by rw [CU] at w;cases w⟩
  ·exact IX.pin p (fE _ z)
 refine wpAny_assign_Name (nj (x:=x) IP hN h7 hx (v:= .ref a) rfl (λs5 I5=>?_) hf);have N5:=(I5.pin (s3.heap.objs.size,oC) (fE _ cB)).1;refine ⟨m,⟨oC,es,ep,N5,CU,rC⟩,λh6 sb=>?_⟩;have GO:Inv X pins (σ.set i (some (.ref a))) H' s5:=I5.jP λp hp=>I5.pin p (fE _ (cI _ hp));exact ⟨_,H',GO.turned (t':=s5.toks) (it:=s3.heap.objs.size) (λb o hb e=>sb.extBut b o hb e) HQ nL (.inr I3.sz) nc np,q⟩
end
section
variable {Z:DC} {X:Cx} {md:List Nat} {rn:Nat} {elt t0 i0 t1 i1:Expr} {f0 f1:List Expr} {scope:Scope} {pos:Pos} {wi cH:gy} {g g1:di} {tt cg:cU} {te:aT} {src:List (Option Nat)} {NC:List Str}
theorem CD(i:Nat){x:Str}{px gK:Pos}(hc:X.calm=true)(hN:X.N.Nodup)(c:bY X scope)(dZ:cP scope X.N src NC)(hi:DI Z X t0 i0 wi)
  (hg:∀ex s H,DG Z (cc X scope NC ex s H) t0 g) (ht:∀ex s H,vN Z (cc X scope NC ex s H) f0 tt) (sO:∀ex s H,DI Z (cc X scope NC ex s H) t1 i1 cH) (CW:∀ex s H,DG Z (cc X scope NC ex s H) t1 g1)
  (C5:∀ex s H,vN Z (cc X scope NC ex s H) f1 cg) (he:∀ex s H,DE Z (cc X scope NC ex s H) elt te)
  (j7:swapsWith (.ListComp elt [⟨t0,i0,f0,0⟩,⟨t1,i1,f1,0⟩] scope pos) (some (.Name x px)) gK.line X.env=pure true:=by rfl) (hm:md.getD i 0=0:=by rfl) (h7:X.N[i]? =some x:=by rfl) (hx:Loc X.env.scope x:=by first|exact Or.inl rfl|exact Or.inr rfl)
  (hf:X.fn x=true∨X.env.scope.names.lookup x=some .local:=by first|exact .inl rfl|exact .inr rfl|assumption)
  (hs:∀x,foldedSetIterable i0 X.env x=pure x:=by intro _;rfl) (v7:∀env x,foldedSetIterable i1 env x=pure x:=by intro _ _;rfl):
  DSt Z X md rn (.Assign [.Name x px] (.ListComp elt [⟨t0,i0,f0,0⟩,⟨t1,i1,f1,0⟩] scope pos) gK) (Hr md false i (Mp wi g tt cH g1 cg te src)):=by
 refine (uP hc hN h7 hx c dZ hi hg ht sO CW C5 he j7 hf hs v7).imp ?_;rintro D σ H ⟨B,ρ,E,⟨G,fp,S⟩,h,M⟩;refine Iz σ H _ (S.ev false h λd hd=>⟨hd.1,λv G' H' S' x dv=>M.nx _ hd.2 _ _ ⟨G',_,S'.BX hm dv⟩⟩)
end
section
variable {Z:DC} {X:Cx} {md:List Nat} {rn:Nat} {e:Expr} {pos:Pos}
theorem ar.flat{G G':Hp}:∀{vs:List V}{ds:List D},ar Z G vs ds→ds.all fi=true→ar Z G' vs ds
 |_,_, .nil,_=> .nil
 |_,_, .cons a as,h=>by
  rw [List.all_cons,vK] at h;exact .cons (a.flat h.1) (as.flat h.2)
end
theorem j5{l:List D}{j:Nat}{d:D}(h:(jl l)[j]? =some d):∃x,l[j]? =some x∧d= .tup [.int (j:Int),x]:=by
 unfold jl at h;rw [List.getElem?_mapIdx] at h;cases e:l[j]? with
 |none=>rw [e] at h;cases h
 |some x=>rw [e] at h;cases h;exact ⟨x,rfl,rfl⟩
theorem CG(l:List D):(jl l).length=l.length:=by unfold jl;simp
theorem fu{α β:Type}{f:α→β}{l:List α}{j:Nat}{y:β}(h:(l.map f)[j]? =some y):∃x,l[j]? =some x∧y=f x:=by
 rw [fc] at h;cases e:l[j]? with
 |none=>rw [e] at h;cases h
 |some x=>rw [e] at h;cases h;exact ⟨x,rfl,rfl⟩
theorem ck(r:List Nat):(r.map af).all fi=true:=by simp [af,fi]
theorem iJ{r:List Nat}{p:Nat}:inD (af p) (r.map af)=decide (p∈r):=by
 unfold inD;rw [List.any_map]
 have:((λy=>i9 y (af p))∘af)=λq:Nat=>decide (q=p):=by
  funext q
  simp [af,i9,Function.comp]
  by_cases z:q=p
  ·simp [z]
  ·have:¬(q:Int)=(p:Int):=by omega
   simp [z,this]
 rw [this]
 by_cases h:p∈r
 ·rw [decide_eq_true h,List.any_eq_true];exact ⟨p,h,by simp⟩
 ·rw [decide_eq_false h]
  apply yE.mpr;intro z;rw [List.any_eq_true] at z;obtain ⟨q,hq,e⟩:=z
  exact h (by have:q=p:=by simpa using e
              rw [←this];exact hq)
theorem ik{l:List D}{p:Nat}{d:D}(h:l[p]? =some d):gD l (p:Int)=some d:=AN h
theorem vc{w:List (List Nat)}{p:Nat}(h:p<w.length):(w.map ao)[p]? =some (ao (Wb.row w p)):=by
 rw [fc,Wb.Jy h];rfl
section
variable {Z:DC} {X:Cx} {md:List Nat} {rn:Nat} {e:Expr} {te:aT} {pos:Pos}
end
theorem MC{c:Bool}{A B:Prop}(e:c=true)(h:A):if c=true then A else B:=by rw [if_pos e];exact h
theorem pN{c:Bool}{A B:Prop}(e:c=false)(h:B):if c=true then A else B:=by rw [if_neg (by rw [e];exact cN)];exact h
theorem pP{g:di}{tt:cU}{te:aT}{α:Type}(I:DN→Prop)(enc:α→D)(p:α→Bool)(f:α→D):∀(ys:List α)(aA:DN)(acc:List D)(N:DN→List D→Prop),(∀y∈ys,∀aA,I aA→∀(Y:DN→D→Prop)(Nn:DN→Prop),(∀aU,I aU→p y=true→Y aU (f y))→(∀aU,I aU→p y=false→Nn aU)→g (enc y) aA λaU=>tt aU λb=>if b=true then te aU (Y aU) else Nn aU)→
  I aA→acc.length+ys.length≤sizeLine→(∀aA,I aA→N aA (acc++(ys.filter p).map f))→lcW g tt te (ys.map enc) aA acc N
 | [],aA,acc,N,_,hI,_,h=>by
  show N aA acc;simpa using h aA hI
 |y::ys,aA,acc,N,hs,hI,hz,h=>by
  rw [dh] at hz;refine hs y (cB ..) aA hI (λaU d=>acc.length<sizeLine∧lcW g tt te (ys.map enc) aU (acc++ [d]) N) (λaU=>lcW g tt te (ys.map enc) aU acc N) (λaU h1 hp=>⟨by omega,?_⟩) (λaU h1 hp=>?_)
  ·refine pP I enc p f ys _ (acc++ [f y]) N (λz hz=>hs z (cI _ hz)) h1 (by simp;omega) λvL h2=>?_
   have:=h vL h2
   rw [List.filter_cons,hp] at this;simpa using this
  ·refine pP I enc p f ys _ acc N (λz hz=>hs z (cI _ hz)) h1 (by omega) λvL h2=>?_
   have:=h vL h2
   rw [List.filter_cons,hp] at this;simpa using this
theorem Bx{g:di}{cH:gy}{g1:di}{te:aT}{α β:Type}(I:DN→Prop)(enc:α→D)(f:α→List β)(g6:β→D):∀(ys:List α)(aA:DN)(acc:List β)(P:List D→Prop),
  (∀y∈ys,∀aA,I aA→∀(Y:DN→List D→Prop),(∀aU,I aU→Y aU ((f y).map g6))→g (enc y) aA λaU=>cH aU (Y aU))→
  (∀y∈ys,∀b∈f y,∀aA,I aA→∀(Y:DN→D→Prop),(∀aU,I aU→Y aU (g6 b))→g1 (g6 b) aA λaU=>te aU (Y aU))→
  I aA→acc.length+(ys.flatMap f).length≤sizeLine→P ((acc++ys.flatMap f).map g6)→g7 g nO cH g1 nO te (ys.map enc) aA (acc.map g6) P
 | [],aA,acc,P,_,_,hI,_,h=>by
  show P (acc.map g6);simpa using h
 |y::ys,aA,acc,P,h1,h2,hI,hz,h=>by
  rw [sD,b9] at hz;refine h1 y (cB ..) aA hI (λaU es=>lcW g1 nO te es aU (acc.map g6) λcq jB=>g7 g nO cH g1 nO te (ys.map enc) cq jB P) λaU Xk=>?_;refine pP I g6 (λ_=>true) g6 (f y) aU (acc.map g6) _ (λb hb cq FL Y Nn hY _=>?_) Xk (by rw [aK];omega) λcq FL=>?_
  ·exact h2 y (cB ..) b hb cq FL Y λPQ h3=>hY PQ h3 rfl
  ·rw [List.filter_eq_self.mpr (λ_ _=>rfl),←dr]
   refine Bx I enc f g6 ys cq (acc++f y) P (λz hz=>h1 z (cI _ hz)) (λz hz=>h2 z (cI _ hz)) FL (by rw [b9];omega) ?_
   rw [sD] at h;rw [kR];exact h
theorem gH{α:Type}{us:List α}(h:us.length=1):∃a0,us= [a0]:=by
 cases us with
 |nil=>cases h
 |cons a l=>
  cases l with
  |nil=>exact ⟨a,rfl⟩
  |cons _ _=>cases h
theorem lW{α:Type}{us:List α}(h:us.length=2):∃a0 a1,us= [a0,a1]:=by
 cases us with
 |nil=>cases h
 |cons a l=>
  obtain ⟨a1,rfl⟩:=gH (Nat.succ.inj h);exact ⟨a,a1,rfl⟩
theorem rS{α:Type}{us:List α}(h:us.length=3):∃a0 a1 a2,us= [a0,a1,a2]:=by
 cases us with
 |nil=>cases h
 |cons a l=>
  obtain ⟨a1,a2,rfl⟩:=lW (Nat.succ.inj h);exact ⟨a,a1,a2,rfl⟩
theorem Tc{α:Type}{us:List α}(h:us.length=4):∃a0 a1 a2 a3,us= [a0,a1,a2,a3]:=by
 cases us with
 |nil=>cases h
 |cons a l=>
  obtain ⟨a1,a2,a3,rfl⟩:=rS (Nat.succ.inj h);exact ⟨a,a1,a2,a3,rfl⟩
section
variable {Z:DC} {X:Cx} {e:Expr} {es:List Expr} {t:iC} {pos:Pos}
theorem az{sd:dD}{k j:Nat}{x:Str}{st:Stmt}{ps:List Str}{p:Pos}(d:fQ X.K X.mg x st ps)(F:FnOk X.prog X.w X.K X.mg X.base cO k d.f d.fd ps (aV Z sd))(hr:cC j X.A)(ha:DA Z X (e::es) t)(hg:Gl X x:=by rfl)(hk:k≤j:=by first|decide|omega)
  (lS:(x==("__debug__":Str))=false:=by decide) (he:starEach (e::es) X.env=(false,eval e X.env)::starEach es X.env:=by rfl) (eU:(backTo pos (starEach es X.env)).any (·.1)=false:=by rfl):
  DE Z X (.Call (.Name x p) (e::es) [] pos) (tX sd t):=Ht F (hr.mono hk) hg d.m d.F.kp d.b ha lS he eU
theorem sI{scope:Scope}(sc:Scope)(e:X.env.scope=sc:=by rfl)(k:scope.kind= .function:=by rfl)(a:∀x∈scope.names,x.2= .local→scope.names.lookup x.1=some .local:=by decide+kernel)(b:∀x∈scope.names,x.2≠ .cell:=by decide+kernel)
  (c:∀x∈scope.names,x.2= .free→sc.names.lookup x.1=some .cell∨sc.names.lookup x.1=some .free:=by decide+kernel):bY X scope:=bY.of sc e k a b c
end
section
variable {K:PySem.W.Frag} {h:Heap} {mg:Str→Option Value}
abbrev gm(K:PySem.W.Frag)(x:Str)(d:Addr):Prop:=PySem.W.nsIn K mainGlobals x=some (some (.ref d))
abbrev eQ(K:PySem.W.Frag)(x qual:Str)(st:Stmt)(d:Addr)(od an:Option Addr)(sl:Array (Option Value))(oc kV dc pm cd ct:Value):Prop:=K.lookup d=some ⟨oc,od, .func (PySem.W.fnOf x qual (iF st) (fk st) (av st) .none kV dc pm an cd ct),sl⟩
def fQ.of{x:Str}{st:Stmt}{ps:List Str}{d:Addr}{od an:Option Addr}{sl:Array (Option Value)}{oc kV dc pm cd ct:Value}(X:K.In h)(G:h.Ns mainGlobals mg)(a:gm K x d)(l:eQ K x x st d od an sl oc kV dc pm cd ct)(c:PySem.W.codeIn K cd x=true)(k:PySem.W.keepIn K (.ref d)=true)
  (b:∀(kV doc pm:Value)(an:Option Addr)(bF ct:Value)(us:List Value),us.length=ps.length→bindArgs (PySem.W.fnOf x x (iF st) (fk st) (av st) .none kV doc pm an bF ct) ⟨us,[]⟩=pure (ps.zip us)):fQ K mg x st ps:=
 ⟨d,_,pH l c k,(pH l c k).binds b,PySem.W.mg_of X G a⟩
def Cr.of{Z:DC}{m qual:Str}{st:Stmt}{ps:List Str}{d:Addr}{od an:Option Addr}{sl:Array (Option Value)}{oc kV dc pm cd ct:Value}(a:PySem.W.findIn Z.K (.ref Z.C) m=some (some (.ref d)))(f:PySem.W.isFn Z.K (.ref d)=true)(l:eQ Z.K m qual st d od an sl oc kV dc pm cd ct)(c:PySem.W.codeIn Z.K cd qual=true)(k:PySem.W.keepIn Z.K (.ref d)=true)
  (b:∀(kV doc pm:Value)(an:Option Addr)(bF ct:Value)(us:List Value),us.length=ps.length→bindArgs (PySem.W.fnOf m qual (iF st) (fk st) (av st) .none kV doc pm an bF ct) ⟨us,[]⟩=pure (ps.zip us)):Cr Z m qual st ps:=
 ⟨d,_,pH l c k,(pH l c k).binds b,⟨a,f,k⟩⟩
end
end L2
namespace Wb
structure RI (w:W) (bs:List Bool) (ws ex:List Nat) (c:Nat):Prop where
 len:bs.length=w.length
 z:bs[0]? =some true
 wt:∀x∈ws,bs[x]? =some true
 cl:∀x,bs[x]? =some true→x∈ws∨x∈ex∨∀q∈row w x,bs[q]? =some true
 cnt:bs.count false+ws.length≤c
theorem RI.pop{w:W}{bs:List Bool}{ws:List Nat}{p c:Nat}(h:RI w bs (ws++ [p]) [] (c+1)):RI w bs ws [p] c:=
 ⟨h.len,h.z,λx hx=>h.wt x (fb _ hx),λx hx=>by
  rcases h.cl x hx with q|q|q
  ·rcases cv.mp q with q|q
   ·exact .inl q
   ·exact .inr (.inl q)
  ·cases q
  ·exact .inr (.inr q),by have:=h.cnt;rw [b9] at this;simp at this;omega⟩
theorem RI.push{w:W}{bs:List Bool}{ws ex:List Nat}{q c:Nat}(h:RI w bs ws ex c)(hq:bs[q]? =some false):RI w (bs.set q true) (ws++ [q]) ex c:=by
 obtain ⟨hl,he⟩:=eO.mp hq
 have up:∀x,bs[x]? =some true→(bs.set q true)[x]? =some true:=λx hx=>by
  rw [sE]
  by_cases e:q=x
  ·rw [if_pos e,if_pos hl]
  ·rw [if_neg e];exact hx
 refine ⟨by rw [kT];exact h.len,up _ h.z,λx hx=>?_,λx hx=>?_,?_⟩
 ·rcases cv.mp hx with z|z
  ·exact up _ (h.wt x z)
  ·have:x=q:=by simpa using z
   rw [this,sE,if_pos rfl,if_pos hl]
 ·by_cases e:q=x
  ·exact .inl (by rw [e];simp)
  ·rw [sE,if_neg e] at hx
   rcases h.cl x hx with z|z|z
   ·exact .inl (fb _ z)
   ·exact .inr (.inl z)
   ·exact .inr (.inr λy hy=>up _ (z y hy))
 ·have hc:=h.cnt
  have:0<bs.count false:=List.count_pos_iff.mpr (by rw [←he];exact qA hl)
  rw [List.count_set hl,he,b9];simp;omega
theorem RI.close{w:W}{bs:List Bool}{ws:List Nat}{p c:Nat}(h:RI w bs ws [p] c)(hp:∀q∈row w p,bs[q]? =some true):RI w bs ws [] c:=
 ⟨h.len,h.z,h.wt,λx hx=>by
  rcases h.cl x hx with q|q|q
  ·exact .inl q
  ·have:x=p:=by simpa using q
   rw [this];exact .inr (.inr hp)
  ·exact .inr (.inr q),h.cnt⟩
theorem RI.all{w:W}{bs:List Bool}{c:Nat}(g:Good w)(h:RI w bs [] [] c):bs=List.replicate w.length true:=by
 have:=rJ g (S:=λx=>bs[x]? =some true) h.z λp q hp hq=>by
  rcases h.cl p hp with z|z|z
  ·cases z
  ·cases z
  ·exact z q hq
 refine List.ext_getElem? λi=>?_
 by_cases hi:i<w.length
 ·rw [this i hi,Az,if_pos hi]
 ·rw [n6 (by rw [h.len];omega),n6 (by simp;omega)]
end Wb
namespace oh
open PySem L2 Wb
def top(i:Nat):Stmt:=PySem.Challenge.pw_mapdye_k34_whole_rings_led_down.main.body.getD i (.Pass ⟨0,0,0,0⟩)
abbrev mm:Stmt:=top 10
abbrev iQ:Stmt:=top 11
abbrev jz:Stmt:=top 12
abbrev iT:Stmt:=top 13
abbrev jy:Stmt:=top 14
abbrev cK:Stmt:=top 15
abbrev iR:Stmt:=top 16
abbrev iS:Stmt:=top 17
abbrev mj:Stmt:=top 20
abbrev kA:Stmt:=top 21
abbrev jS:Stmt:=top 22
abbrev e6:Stmt:=top 23
abbrev rz:Stmt:=top 24
abbrev kz:Stmt:=top 25
abbrev gX:Stmt:=top 27
abbrev jv:Stmt:=top 28
abbrev jw:Stmt:=top 29
abbrev dR:Stmt:=top 30
abbrev ju:Stmt:=top 31
abbrev jc:Stmt:=top 32
abbrev gY:Stmt:=top 33
abbrev jx:Stmt:=top 34
abbrev kv:Stmt:=top 35
abbrev eZ:Stmt:=top 36
abbrev kx:Stmt:=top 37
abbrev zO:Stmt:=top 38
abbrev dP:Stmt:=L2.iu (top 18) 0
abbrev rY:Stmt:=L2.iu (top 18) 1
abbrev ij:Stmt:=L2.iu (top 18) 2
abbrev rZ:Stmt:=L2.iu (top 18) 3
abbrev mh:Stmt:=L2.iu (top 18) 4
abbrev nU:Stmt:=L2.iu (top 18) 5
theorem qh:aI ["thing","many"] ["thing","many"] (av mm):=⟨rfl,rfl,rfl,by decide+kernel,rfl,by decide+kernel,by decide+kernel⟩
theorem kK:aI ["rows","p","row","q"] ["rows"] (av iQ):=⟨rfl,rfl,rfl,by decide+kernel,rfl,by decide+kernel,by decide+kernel⟩
theorem mF:aI ["rows","p","row"] ["rows"] (av jz):=⟨rfl,rfl,rfl,by decide+kernel,rfl,by decide+kernel,by decide+kernel⟩
theorem kN:aI ["rows","p","row","place","q"] ["rows"] (av iT):=⟨rfl,rfl,rfl,by decide+kernel,rfl,by decide+kernel,by decide+kernel⟩
theorem mE:aI ["rows","p","row","q"] ["rows"] (av jy):=⟨rfl,rfl,rfl,by decide+kernel,rfl,by decide+kernel,by decide+kernel⟩
theorem fY:aI ["rows","reached","waiting","p","q"] ["rows"] (av cK):=⟨rfl,rfl,rfl,by decide+kernel,rfl,by decide+kernel,by decide+kernel⟩
theorem kL:aI ["rows","q","reached"] ["rows"] (av iR):=⟨rfl,rfl,rfl,by decide+kernel,rfl,by decide+kernel,by decide+kernel⟩
theorem kM:aI ["rows","fault"] ["rows"] (av iS):=⟨rfl,rfl,rfl,by decide+kernel,rfl,by decide+kernel,by decide+kernel⟩
theorem qg:aI ["ring","p","place"] ["ring","p"] (av mj):=⟨rfl,rfl,rfl,by decide+kernel,rfl,by decide+kernel,by decide+kernel⟩
theorem nZ:aI ["web","ring","i","turn"] ["web","ring","i"] (av kA):=⟨rfl,rfl,rfl,by decide+kernel,rfl,by decide+kernel,by decide+kernel⟩
theorem uV:aI ["web","ring","pairs"] ["web","ring"] (av jS):=⟨rfl,rfl,rfl,by decide+kernel,rfl,by decide+kernel,by decide+kernel⟩
theorem je:aI ["web","ring","turns","waiting","met","p"] ["web","ring"] (av e6):=⟨rfl,rfl,rfl,by decide+kernel,rfl,by decide+kernel,by decide+kernel⟩
theorem uW:aI ["ring","i","j"] ["ring","i","j"] (av rz):=⟨rfl,rfl,rfl,by decide+kernel,rfl,by decide+kernel,by decide+kernel⟩
theorem nY:aI ["web","ring"] ["web","ring"] (av kz):=⟨rfl,rfl,rfl,by decide+kernel,rfl,by decide+kernel,by decide+kernel⟩
theorem jU:aI ["_law_script","_law_k"] ["_law_script","_law_k"] (av gX):=⟨rfl,rfl,rfl,by decide+kernel,rfl,by decide+kernel,by decide+kernel⟩
theorem mw:aI ["_law_cell","_law_mixed"] ["_law_cell"] (av jv):=⟨rfl,rfl,rfl,by decide+kernel,rfl,by decide+kernel,by decide+kernel⟩
theorem mz:aI ["_law_number","_law_turns","_law_ring","_law_many","_law_point","_law_at","_law_far","_law_arc","_law_other"] ["_law_number"] (av jw):=⟨rfl,rfl,rfl,by decide+kernel,rfl,by decide+kernel,by decide+kernel⟩
theorem mB:aI ["_law_turns","_law_ring","_law_number","_law_names","_law_k","_law_found","_law_row","_law_at"] ["_law_turns","_law_ring","_law_number"] (av dR):=⟨rfl,rfl,rfl,by decide+kernel,rfl,by decide+kernel,by decide+kernel⟩
theorem mn:aI ["_law_script","_law_turns","_law_ring","_law_number","_law_one","_law_other","_law_row"] ["_law_script"] (av ju):=⟨rfl,rfl,rfl,by decide+kernel,rfl,by decide+kernel,by decide+kernel⟩
theorem qf:aI ["_law_turns"] ["_law_turns"] (av jc):=⟨rfl,rfl,rfl,by decide+kernel,rfl,by decide+kernel,by decide+kernel⟩
theorem jV:aI ["_law_web_here","_law_ring","_law_k"] ["_law_web_here","_law_ring"] (av gY):=⟨rfl,rfl,rfl,by decide+kernel,rfl,by decide+kernel,by decide+kernel⟩
theorem mD:aI ["_law_web_here","_law_ring","_law_some","_law_number","_law_i","_law_j","_law_one","_law_other","_law_inner"] ["_law_web_here","_law_ring","_law_some","_law_number"] (av jx):=⟨rfl,rfl,rfl,by decide+kernel,rfl,by decide+kernel,by decide+kernel⟩
theorem nW:aI ["_law_web_here","_law_ring","_law_inner","_law_less_here","_law_left"] ["_law_web_here","_law_ring"] (av kv):=⟨rfl,rfl,rfl,by decide+kernel,rfl,by decide+kernel,by decide+kernel⟩
theorem jd:aI ["_law_some","_law_last","_law_number"] ["_law_some","_law_last","_law_number"] (av eZ):=⟨rfl,rfl,rfl,by decide+kernel,rfl,by decide+kernel,by decide+kernel⟩
theorem nX:aI ["_law_web_here","_law_ring","_law_number","_law_some","_law_parts_here","_law_told","_law_inner","_law_less_here","_law_at"] ["_law_web_here","_law_ring","_law_number"] (av kx):=⟨rfl,rfl,rfl,by decide+kernel,rfl,by decide+kernel,by decide+kernel⟩
theorem Fi:aI ["_law_script","_law_turns","_law_ring","_law_web_here","_law_number","_law_waiting","_law_came","_law_used","_law_k","_law_here","_law_told","_law_others"] ["_law_script"] (av zO):=⟨rfl,rfl,rfl,by decide+kernel,rfl,by decide+kernel,by decide+kernel⟩
theorem jT:aI ["self","turns","rows","fault"] ["self","turns"] (av dP):=⟨rfl,rfl,rfl,by decide+kernel,rfl,by decide+kernel,by decide+kernel⟩
theorem nV:aI ["self"] ["self"] (av ij):=⟨rfl,rfl,rfl,by decide+kernel,rfl,by decide+kernel,by decide+kernel⟩
theorem qe:aI ["self","a","b","many"] ["self","a","b"] (av mh):=⟨rfl,rfl,rfl,by decide+kernel,rfl,by decide+kernel,by decide+kernel⟩
structure Txt (Z:DC) (mg:Str→Option Value) where
 B:PU mg
 x_set:mg "set"=none
 d_is_among:fQ Z.K mg "is_among" mm ["thing","many"]
 d_alien_fault:fQ Z.K mg "alien_fault" iQ ["rows"]
 d_self_fault:fQ Z.K mg "self_fault" jz ["rows"]
 d_twice_fault:fQ Z.K mg "twice_fault" iT ["rows"]
 d_lone_fault:fQ Z.K mg "lone_fault" jy ["rows"]
 d_reached_from_first:fQ Z.K mg "reached_from_first" cK ["rows"]
 d_apart_fault:fQ Z.K mg "apart_fault" iR ["rows"]
 d_first_fault:fQ Z.K mg "first_fault" iS ["rows"]
 d_begun_at:fQ Z.K mg "begun_at" mj ["ring","p"]
 d_within_at:fQ Z.K mg "within_at" kA ["web","ring","i"]
 d_chords:fQ Z.K mg "chords" jS ["web","ring"]
 d_points_within:fQ Z.K mg "points_within" e6 ["web","ring"]
 d_parted:fQ Z.K mg "parted" rz ["ring","i","j"]
 d_made_less:fQ Z.K mg "made_less" kz ["web","ring"]
 d__law_cell_at:fQ Z.K mg "_law_cell_at" gX ["_law_script","_law_k"]
 d__law_drawn:fQ Z.K mg "_law_drawn" jv ["_law_cell"]
 d__law_grown:fQ Z.K mg "_law_grown" jw ["_law_number"]
 d__law_named:fQ Z.K mg "_law_named" dR ["_law_turns","_law_ring","_law_number"]
 d__law_built:fQ Z.K mg "_law_built" ju ["_law_script"]
 d__law_web:fQ Z.K mg "_law_web" jc ["_law_turns"]
 d__law_is_ring:fQ Z.K mg "_law_is_ring" gY ["_law_web_here","_law_ring"]
 d__law_parts:fQ Z.K mg "_law_parts" jx ["_law_web_here","_law_ring","_law_some","_law_number"]
 d__law_less:fQ Z.K mg "_law_less" kv ["_law_web_here","_law_ring"]
 d__law_by_chord:fQ Z.K mg "_law_by_chord" eZ ["_law_some","_law_last","_law_number"]
 d__law_step:fQ Z.K mg "_law_step" kx ["_law_web_here","_law_ring","_law_number"]
 d_law:fQ Z.K mg "law" zO ["_law_script"]
 W:Ex Z
 mC:mg "Web"=some (.ref Z.C)
 i_f:Addr
 i_fd:FuncData
 i_F:vO Z.K "__init__" "Web.__init__" dP i_f i_fd
 mkW:Mk Z.K Z.C i_f
 m___init__b:Binds Z.K i_fd ["self","turns"] []
 m_many:Cr Z "many" "Web.many" rY ["self"]
 m_turns:Cr Z "turns" "Web.turns" ij ["self"]
 m_ties:Cr Z "ties" "Web.ties" rZ ["self"]
 m_tied:Cr Z "tied" "Web.tied" mh ["self","a","b"]
 m_behind:Cr Z "behind" "Web.behind" nU ["self","p","q"]
 c_MOST_POINTS:∃tk,mg "MOST_POINTS"=some (.int 14 tk)
variable {P:Program} {w:World} {mg:Str→Option Value} {base:Heap} {Z:DC} (T:Txt Z mg)
def JD:dD:=λds P=>∃(i n:Int),ds= [.int i, .int n]∧P (.bl (decide (0≤i∧i<n)))
theorem kn:FnOk P w Z.K mg base cO 1 T.d_is_among.f T.d_is_among.fd ["thing","many"] (aV Z JD):=by
 have nd:=qh.nd;refine br T.d_is_among.F qh [0,0] (by decide) (λds R h=>by obtain ⟨_,_,rfl,_⟩:=h;rfl) (λbF A outer s H E ds R hr h=>?_)
 have hu:=hr.units;refine ⟨_,(aq (aJ (mU (EA "int" (aa 0) rfl T.B.isinstance rfl T.B.int Ka) (mU (Kg (EA "bool" (aa 0) rfl T.B.isinstance rfl T.B.bool Hd)) (tj (FD Dz qW au (aa 0) (aa 1))))))),?_⟩;obtain ⟨i,n,rfl,q⟩:=h;refine ⟨_,rfl,rfl,true,rfl,cM ⟨_,rfl,rfl,false,rfl,true,rfl,cM ⟨_,rfl,?_⟩⟩⟩;refine ⟨_,rfl,eo (λh0=>⟨_,rfl,?_⟩) (λh0=>?_)⟩
 ·have h0:0≤i:=of_decide_eq_true h0
  show R (.bl (decide (i<n)));rw [show decide (i<n)=decide (0≤i∧i<n) by simp [h0]]
  exact q
 ·have h0:¬0≤i:=of_decide_eq_false h0
  rw [show decide (0≤i∧i<n)=false by simp [h0]] at q
  exact q
def nh:dD:=λds P=>∃(w:W),ds= [aN w]∧Good w∧1≤w.length∧w.length≤14∧P .bf
theorem Fs{w:W}{j:Nat}{d:D}(h:(jl (w.map ao))[j]? =some d):j<w.length∧d= .tup [.int (j:Int),ao (row w j)]:=by
 obtain ⟨x,hx,rfl⟩:=j5 h;obtain ⟨r,hr,rfl⟩:=fu hx;have hj:j<w.length:=(eO.mp hr).1;refine ⟨hj,?_⟩;rw [Fg hr]
theorem sQ:FnOk P w Z.K mg base cO 2 T.d_alien_fault.f T.d_alien_fault.fd ["rows"] (aV Z nh):=by
 have nd:=kK.nd;refine br T.d_alien_fault.F kK [0,0,0,0] (by decide) (λds R h=>by obtain ⟨_,rfl,_⟩:=h;rfl) (λbF A outer s H E ds R hr h=>?_)
 have hu:=hr.units
 refine ⟨_,(ah (fS rfl PassesOwn.never (iG rfl T.B.enumerate (ab (aa 0) ag)) (fz 2 rfl (aZ (aL 1 nd) (aZ (aL 2 nd) cQ))) (aq (fS rfl PassesOwn.never (cE (aa 2)) (aL 3 nd) (aq (bX (mW (i8 (az T.d_is_among (kn T) hr (ab (aa 3) (ab (ay aP rfl T.B.len aO (ab (aa 0) ag)) ag))))) (aq (aJ (eT (ab pe (ab (aa 1) (ab (aa 3) ag)))))) bg)))))
   (aq (aJ cR))),?_⟩
 obtain ⟨w',rfl,g,h1,bE,q⟩:=h;refine ⟨_,rfl,dJ (λ_ ρ=>∃o1 o2 o3,ρ= [some (aN w'),o1,o2,o3]) ⟨_,_,_,rfl⟩ ?_ ?_⟩
 ·rintro j d _ hd ⟨o1,o2,o3,rfl⟩ A hA
  obtain ⟨hj,rfl⟩:=Fs hd;refine ⟨rfl,rfl,?_⟩;refine ⟨_,rfl,dJ (λ_ ρ=>∃o3,ρ= [some (aN w'),some (.int (j:Int)),some (ao (row w' j)),o3]) ⟨_,rfl⟩ ?_ ?_⟩
  ·rintro k d' _ hk ⟨o4,rfl⟩ A' CO
   obtain ⟨x,hx,rfl⟩:=fu hk;refine ⟨_,rfl,_,rfl,_,_,rfl,⟨rfl,?_⟩⟩;have bN:x<w'.length:=g.rng _ _ (gd hx);rw [show decide ((0:Int)≤(x:Int)∧(x:Int)<((w'.map ao).length:Int))=true by simp;omega]
   exact cF (CO _ ⟨_,rfl⟩)
  ·rintro _ ⟨o4,rfl⟩
   exact hA _ ⟨_,_,_,rfl⟩
 ·rintro _ ⟨o1,o2,o3,rfl⟩
  exact q
theorem uL:FnOk P w Z.K mg base cO 1 T.d_self_fault.f T.d_self_fault.fd ["rows"] (aV Z nh):=by
 have nd:=mF.nd;refine br T.d_self_fault.F mF [0,0,0] (by decide) (λds R h=>by obtain ⟨_,rfl,_⟩:=h;rfl) (λbF A outer s H E ds R hr h=>?_)
 have hu:=hr.units
 refine ⟨_,(ah (fS rfl PassesOwn.never (iG rfl T.B.enumerate (ab (aa 0) ag)) (fz 2 rfl (aZ (aL 1 nd) (aZ (aL 2 nd) cQ))) (aq (bX (bp zA (aa 1) (aa 2) (by with_unfolding_all rfl)) (aq (aJ (eT (ab pe (ab (aa 1) (ab (aa 1) ag)))))) bg)))
   (aq (aJ cR))),?_⟩
 obtain ⟨w',rfl,g,h1,bE,q⟩:=h;refine ⟨_,rfl,dJ (λ_ ρ=>∃o1 o2,ρ= [some (aN w'),o1,o2]) ⟨_,_,rfl⟩ ?_ ?_⟩
 ·rintro j d _ hd ⟨o1,o2,rfl⟩ A hA
  obtain ⟨hj,rfl⟩:=Fs hd;refine ⟨rfl,rfl,?_⟩;refine ⟨_,rfl,_,rfl,rfl,ck _,_,rfl,?_⟩
  have e:inD (.int (j:Int)) ((row w' j).map af)=false:=by
   have:=iJ (r:=row w' j) (p:=j)
   rw [decide_eq_false (g.irr j)] at this;exact this
  rw [if_neg cN,e];exact cF (hA _ ⟨_,_,rfl⟩)
 ·rintro _ ⟨o1,o2,rfl⟩
  exact q
theorem eJ{α:Type}(l:List α)(k:Nat)(h:k≤l.length):cutD l none (some (k:Int))=l.take k:=by
 unfold cutD;have e1:HT.bD l.length 0 none=0:=rfl
 have e2:HT.bD l.length l.length (some (k:Int))=k:=by
  simp only [HT.bD]
  split<;>omega
 rw [e1,e2];simp
theorem sT:FnOk P w Z.K mg base cO 1 T.d_twice_fault.f T.d_twice_fault.fd ["rows"] (aV Z nh):=by
 have nd:=kN.nd;refine br T.d_twice_fault.F kN [0,0,0,0,0] (by decide) (λds R h=>by obtain ⟨_,rfl,_⟩:=h;rfl) (λbF A outer s H E ds R hr h=>?_)
 have hu:=hr.units
 refine ⟨_,(ah (fS rfl PassesOwn.never (iG rfl T.B.enumerate (ab (aa 0) ag)) (fz 2 rfl (aZ (aL 1 nd) (aZ (aL 2 nd) cQ))) (aq (fS rfl PassesOwn.never (iG rfl T.B.enumerate (ab (aa 2) ag)) (fz 2 rfl (aZ (aL 3 nd) (aZ (aL 4 nd) cQ))) (aq (bX (bp zA (aa 4) (bM (aa 2) b7 (bG (aa 3))) (by with_unfolding_all rfl)) (aq (aJ (eT (ab pe (ab (aa 1) (ab (aa 4) ag)))))) bg)))))
   (aq (aJ cR))),?_⟩
 obtain ⟨w',rfl,g,h1,bE,q⟩:=h;refine ⟨_,rfl,dJ (λ_ ρ=>∃o1 o2 o3 o4,ρ= [some (aN w'),o1,o2,o3,o4]) ⟨_,_,_,_,rfl⟩ ?_ ?_⟩
 ·rintro j d _ hd ⟨o1,o2,o3,o4,rfl⟩ A hA
  obtain ⟨hj,rfl⟩:=Fs hd;refine ⟨rfl,rfl,?_⟩;refine ⟨_,rfl,dJ (λ_ ρ=>∃o3 o4,ρ= [some (aN w'),some (.int (j:Int)),some (ao (row w' j)),o3,o4]) ⟨_,_,rfl⟩ ?_ ?_⟩
  ·rintro k d' _ hk ⟨o5,o6,rfl⟩ A' CO
   obtain ⟨y,hy,rfl⟩:=j5 hk;obtain ⟨x,hx,rfl⟩:=fu hy;have jF:k<(row w' j).length:=(eO.mp hx).1;refine ⟨rfl,rfl,?_⟩;refine ⟨_,rfl,_,rfl,_,rfl,?_⟩;have ec:cutD ((row w' j).map af) none (some (k:Int))=((row w' j).take k).map af:=by rw [eJ _ _ (by simp;omega),mO]
   refine (?_:Kc false (af x) (.lst (cutD ((row w' j).map af) none (some (k:Int)))) _);rw [ec];refine ⟨rfl,ck _,_,rfl,?_⟩
   have e:inD (af x) (((row w' j).take k).map af)=false:=by
    rw [iJ,decide_eq_false];intro z;obtain ⟨m,hm⟩:=vD z
    have FV:m<k:=by
     have:=(eO.mp hm).1
     rw [cm] at this;omega
    rw [sA FV] at hm;exact absurd ((List.getElem?_inj (by omega) (g.nod j)).mp (hm.trans hx.symm)) (by omega)
   rw [if_neg cN,e];exact cF (CO _ ⟨_,_,rfl⟩)
  ·rintro _ ⟨o5,o6,rfl⟩
   exact hA _ ⟨_,_,_,_,rfl⟩
 ·rintro _ ⟨o1,o2,o3,o4,rfl⟩
  exact q
theorem uK:FnOk P w Z.K mg base cO 1 T.d_lone_fault.f T.d_lone_fault.fd ["rows"] (aV Z nh):=by
 have nd:=mE.nd;refine br T.d_lone_fault.F mE [0,0,0,0] (by decide) (λds R h=>by obtain ⟨_,rfl,_⟩:=h;rfl) (λbF A outer s H E ds R hr h=>?_)
 have hu:=hr.units
 refine ⟨_,(ah (fS rfl PassesOwn.never (iG rfl T.B.enumerate (ab (aa 0) ag)) (fz 2 rfl (aZ (aL 1 nd) (aZ (aL 2 nd) cQ))) (aq (fS rfl PassesOwn.never (cE (aa 2)) (aL 3 nd) (aq (bX (bp qX (aa 1) (bJ (aa 0) (aa 3)) (by with_unfolding_all rfl)) (aq (aJ (eT (ab pe (ab (aa 1) (ab (aa 3) ag)))))) bg)))))
   (aq (aJ cR))),?_⟩
 obtain ⟨w',rfl,g,h1,bE,q⟩:=h;refine ⟨_,rfl,dJ (λ_ ρ=>∃o1 o2 o3,ρ= [some (aN w'),o1,o2,o3]) ⟨_,_,_,rfl⟩ ?_ ?_⟩
 ·rintro j d _ hd ⟨o1,o2,o3,rfl⟩ A hA
  obtain ⟨hj,rfl⟩:=Fs hd;refine ⟨rfl,rfl,?_⟩;refine ⟨_,rfl,dJ (λ_ ρ=>∃o3,ρ= [some (aN w'),some (.int (j:Int)),some (ao (row w' j)),o3]) ⟨_,rfl⟩ ?_ ?_⟩
  ·rintro k d' _ hk ⟨o4,rfl⟩ A' CO
   obtain ⟨x,hx,rfl⟩:=fu hk;have Ss:=gd hx;have bN:x<w'.length:=g.rng _ _ Ss;refine ⟨_,rfl,_,rfl,_,rfl,_,ik (vc bN),rfl,ck _,_,rfl,?_⟩
   have e:inD (.int (j:Int)) ((row w' x).map af)=true:=by
    have:=iJ (r:=row w' x) (p:=j)
    rw [decide_eq_true (g.sym _ _ Ss)] at this;exact this
   rw [if_pos rfl,e];exact cF (CO _ ⟨_,rfl⟩)
  ·rintro _ ⟨o4,rfl⟩
   exact hA _ ⟨_,_,_,rfl⟩
 ·rintro _ ⟨o1,o2,o3,rfl⟩
  exact q
def tQ(bs:List Bool):List D:=bs.map D.bl
theorem Hg{bs:List Bool}{i:Nat}{b:Bool}(h:bs[i]? =some b):(tQ bs)[i]? =some (.bl b):=by unfold tQ;rw [fc,h];rfl
theorem AV(bs:List Bool)(i:Nat)(b:Bool):(tQ bs).set i (.bl b)=tQ (bs.set i b):=by unfold tQ;rw [List.map_set]
theorem AU(bs:List Bool):(tQ bs).length=bs.length:=aK _
theorem jI{n k:Nat}(h:k<n):oF n (k:Int)=some k:=by unfold oF;rw [if_pos (by omega),if_pos (by omega)];simp
def Ec:dD:=λds P=>∃(w:W),ds= [aN w]∧Good w∧1≤w.length∧w.length≤14∧P (.lst (tQ (List.replicate w.length true)))
theorem ko:FnOk P w Z.K mg base cO 1 T.d_reached_from_first.f T.d_reached_from_first.fd ["rows"] (aV Z Ec):=by
 have nd:=fY.nd;refine br T.d_reached_from_first.F fY [0,1,1,0,0] (by decide) (λds R h=>by obtain ⟨_,rfl,_⟩:=h;rfl) (λbF A outer s H E ds R hr h=>?_)
 have hu:=hr.units
 refine ⟨_,(ah (wC 1 (NC:= ["row"]) (src:= [none]) rfl nd (sI (av cK)) trivial (cE (aa 0)) (λ_ _ _=>(cD 0 (show (["row"]:List Str).Nodup from by decide+kernel))) (λ_ _ _=>fm) (λ_ _ _=>qG))
   (ah (wD false 1 au qG)
   (ah (tw 2 nd (tq (ab au ag)))
   (ah (wG PassesOwn.never (i8 (aa 2)) (ah (yX 3 2 nd)
   (aq (fS rfl PassesOwn.never (cE (bJ (aa 0) (aa 3))) (aL 4 nd) (aq (bX (mW (i8 (bJ (aa 1) (aa 4)))) (ah (wD false 1 (aa 4) qG)
   (aq (EE false 2 (aa 4)))) bg))))))
   (aq (aJ (aa 1))))))),?_⟩
 obtain ⟨w',rfl,g,h1,bE,q⟩:=h;refine ⟨_,rfl,j9 (ρ:= [none]) ao (λ_=> .bl false) w' _ (λy hy Y h=>h) rfl (small (by omega)) λaA=>?_⟩
 have e0:w'.map (λ_=>D.bl false)=tQ (List.replicate w'.length false):=by unfold tQ;rw [List.map_replicate,List.map_const']
 rw [e0];refine ⟨trivial,_,rfl,0,0,rfl,by rw [AU,yy];exact jI (k:=0) (by omega),?_⟩
 rw [AV];refine ⟨by show 1≤sizeLine;decide,?_⟩
 refine vd (λm ρ=>∃(bs:List Bool)(ws:List Nat)(o3 o4:Option D),ρ= [some (aN w'),some (.lst (tQ bs)),some (.lst (ws.map af)),o3,o4]∧RI w' bs ws [] m∧m≤14∧bs.count false+ws.length=m) w'.length ?_ ?_
 ·refine ⟨_,[0],none,none,rfl,⟨by simp,?_,?_,λx hx=>?_,?_⟩,bE,?_⟩
  ·rw [sE,if_pos rfl,if_pos (by rw [yy];omega)]
  ·intro x hx
   have:x=0:=by simpa using hx
   rw [this,sE,if_pos rfl,if_pos (by rw [yy];omega)]
  ·by_cases e:0=x
   ·exact .inl (by rw [←e];simp)
   ·rw [sE,if_neg e,Az] at hx
    split at hx<;>cases hx
  ·rw [List.count_set (by rw [yy];omega),List.count_replicate_self,List.getElem_replicate]
   simp;omega
  ·rw [List.count_set (by rw [yy];omega),List.count_replicate_self,List.getElem_replicate]
   simp;omega
 ·rintro m _ ⟨bs,ws,o3,o4,rfl,ri,hc,RT⟩
  refine ⟨_,rfl,rfl,?_⟩
  rcases AB ws with rfl| ⟨qu,p,e⟩
  ·refine cF ?_
   have e:=ri.all g;rw [←e] at q;exact ⟨_,rfl,q⟩
  ·rw [Co] at e
   subst e;rw [show xr (.lst ((qu++ [p]).map af))=true by simp [xr]]
   refine cM ?_;rw [b9] at RT;simp only [vC] at RT;obtain ⟨c',rfl⟩:∃c',m=c'+1:=⟨m-1,by omega⟩
   have ri2:=ri.pop;have hp:bs[p]? =some true:=ri.wt p (by simp)
   have Ky:p<w'.length:=by rw [←ri.len];exact (eO.mp hp).1
   refine ⟨qu.map af,af p,by rw [dr];rfl,?_⟩
   refine ⟨_,rfl,_,rfl,_,ik (vc Ky),dJ (λj ρ=>∃(oY:List Bool)(wk:List Nat)(o4:Option D),ρ= [some (aN w'),some (.lst (tQ oY)),some (.lst (wk.map af)),some (af p),o4]∧RI w' oY wk [p] c'∧(∀k y,k<j→(row w' p)[k]? =some y→oY[y]? =some true)∧oY.count false+wk.length=c') ?_ ?_ ?_⟩
   ·exact ⟨bs,qu,_,rfl,ri2,(λk n hk=>by omega),by omega⟩
   ·rintro j x _ hx ⟨oY,wk,o5,rfl,Jw,ED,M8⟩ A hA
    obtain ⟨n,hn,rfl⟩:=fu hx;have XS:=g.rng _ _ (gd hn);have Kx:n<oY.length:=by rw [Jw.len];exact XS
    have HS:oY[n]? =some (oY[n]):=bA Kx;refine ⟨_,rfl,_,rfl,_,ik (Hg HS),rfl,?_⟩;generalize oY[n]=bn at HS;cases bn with
    |true=>
     refine cF (hA _ ⟨oY,wk,_,rfl,Jw,λk y hk hy=>?_,M8⟩)
     by_cases e:k=j
     ·rw [e,hn] at hy;cases hy;exact HS
     ·exact ED k y (by omega) hy
    |false=>
     refine cM ?_;refine ⟨trivial,_,rfl,_,rfl,_,n,rfl,by rw [AU];exact jI Kx,?_⟩
     rw [AV];have Lx:=Jw.push HS;have aac:=Lx.cnt;refine ⟨_,rfl,_,rfl,trivial,kB (by rw [aK];omega),?_⟩
     have er:wk.map af++ [af n]=(wk++ [n]).map af:=by rw [dr];rfl
     rw [er];refine hA _ ⟨oY.set n true,wk++ [n],_,rfl,Lx,λk y hk hy=>?_,?_⟩
     ·rw [sE]
      by_cases e:n=y
      ·rw [if_pos e,if_pos Kx]
      ·rw [if_neg e]
       refine ED k y ?_ hy;apply Classical.byContradiction;intro z
       have:k=j:=by omega
       rw [this,hn] at hy;cases hy;exact e rfl
     ·obtain ⟨hl,he⟩:=eO.mp HS
      have:0<oY.count false:=List.count_pos_iff.mpr (by rw [←he];exact qA hl)
      rw [List.count_set hl,he,b9];simp;omega
   ·rintro _ ⟨oY,wk,o5,rfl,Jw,ED,M8⟩
    have Lx:=Jw.close λy hy=>by
     obtain ⟨k,hk⟩:=vD hy;exact ED k y (by rw [aK];exact (eO.mp hk).1) hk
    exact ⟨c',by omega,oY,wk,_,_,rfl,Lx,by omega,M8⟩
theorem sS:FnOk P w Z.K mg base cO 2 T.d_apart_fault.f T.d_apart_fault.fd ["rows"] (aV Z nh):=by
 have nd:=kL.nd;refine br T.d_apart_fault.F kL [0,0,0] (by decide) (λds R h=>by obtain ⟨_,rfl,_⟩:=h;rfl) (λbF A outer s H E ds R hr h=>?_)
 have hu:=hr.units
 refine ⟨_,(ah (fS rfl PassesOwn.never (iG rfl T.B.enumerate (ab (az T.d_reached_from_first (ko T) hr (ab (aa 0) ag)) ag)) (fz 2 rfl (aZ (aL 1 nd) (aZ (aL 2 nd) cQ))) (aq (bX (mW (i8 (aa 2))) (aq (aJ (eT (ab pe (ab au (ab (aa 1) ag)))))) bg)))
   (aq (aJ cR))),?_⟩
 obtain ⟨w',rfl,g,h1,bE,q⟩:=h;refine ⟨_,rfl,w',rfl,g,h1,bE,dJ (λ_ ρ=>∃o1 o2,ρ= [some (aN w'),o1,o2]) ⟨_,_,rfl⟩ ?_ ?_⟩
 ·rintro j d _ hd ⟨o1,o2,rfl⟩ A hA
  obtain ⟨y,hy,rfl⟩:=j5 hd
  have ey:y= .bl true:=by
   obtain ⟨b,hb,rfl⟩:=fu hy
   have:=gd hb
   rw [List.mem_replicate] at this;rw [this.2]
  subst ey;refine ⟨rfl,rfl,?_⟩;exact ⟨_,rfl,rfl,cF (hA _ ⟨_,_,rfl⟩)⟩
 ·rintro _ ⟨o1,o2,rfl⟩
  exact q
theorem kI:FnOk P w Z.K mg base cO 3 T.d_first_fault.f T.d_first_fault.fd ["rows"] (aV Z nh):=by
 have nd:=kM.nd;refine br T.d_first_fault.F kM [0,0] (by decide) (λds R h=>by obtain ⟨_,rfl,_⟩:=h;rfl) (λbF A outer s H E ds R hr h=>?_)
 have hu:=hr.units
 refine ⟨_,(ah (aE false 1 nd (az T.d_alien_fault (sQ T) hr (ab (aa 0) ag)))
   (ah (bX (bp oO (aa 1) cR (bw _)) (aq (aE false 1 nd (az T.d_self_fault (uL T) hr (ab (aa 0) ag)))) bg)
   (ah (bX (bp oO (aa 1) cR (bw _)) (aq (aE false 1 nd (az T.d_twice_fault (sT T) hr (ab (aa 0) ag)))) bg)
   (ah (bX (bp oO (aa 1) cR (bw _)) (aq (aE false 1 nd (az T.d_lone_fault (uK T) hr (ab (aa 0) ag)))) bg)
   (ah (bX (bp oO (aa 1) cR (bw _)) (aq (aE false 1 nd (az T.d_apart_fault (sS T) hr (ab (aa 0) ag)))) bg)
   (aq (aJ (aa 1)))))))),?_⟩
 obtain ⟨w',rfl,g,h1,bE,q⟩:=h;have no:∀(u:dW)(E:gQ)(ρ:DN)(te:aT),ρ[1]? =some (some .bf)→E.nx ρ→Mo (yU (FC (Hm false) (Mr 1) (dC .bf))) u Ho E ρ→True:=λ_ _ _ _ _ _ _=>trivial;refine ⟨_,rfl,w',rfl,g,h1,bE,trivial,?_⟩;refine ⟨_,rfl,_,rfl,cM ⟨_,rfl,w',rfl,g,h1,bE,trivial,?_⟩⟩;refine ⟨_,rfl,_,rfl,cM ⟨_,rfl,w',rfl,g,h1,bE,trivial,?_⟩⟩;refine ⟨_,rfl,_,rfl,cM ⟨_,rfl,w',rfl,g,h1,bE,trivial,?_⟩⟩;refine ⟨_,rfl,_,rfl,cM ⟨_,rfl,w',rfl,g,h1,bE,trivial,?_⟩⟩;exact ⟨_,rfl,q⟩
theorem qY{P:Program}{w:World}{mg:Str→Option Value}{base:Heap}{Z:DC}(T:Txt Z mg):FnOk P w Z.K mg base cO 4 T.i_f T.i_fd ["self","turns"] (B5 Z):=by
 have HM:=kI (P:=P) (w:=w) (base:=base) T;have nd:=jT.nd;refine T.i_F.ok jT (λvs H Q E h=>?_) (λbF A outer s H vs Q E hr h=>?_)
 ·obtain ⟨p,dx,v,G,w',rfl,_⟩:=h;rfl
 obtain ⟨p,dx,v,G,w',rfl,hp,sG,gp,dv,g,h1,bE,q⟩:=h;have hu:=hr.units
 refine ⟨_,jR (t:=oK Z [0,0,0,0] 0 _)
   (bX (mW (FI Dz Dz au (ay aP rfl T.B.len aO (ab (aa 1) ag)) (FF rfl T.c_MOST_POINTS))) (aq wB) bg)
  (jR (t:=oK Z [0,0,0,0] 0 _)
   (wF 2 (NC:= ["row"]) (src:= [none]) rfl nd (sI (av dP)) trivial (cE (aa 1)) (λ_ _ _=>(cD 0 (show (["row"]:List Str).Nodup from by decide+kernel))) (λ_ _ _=>fm) (λ_ _ _=>(j3 oZ rfl T.B.list lJ (ab (aa 0) ag))))
  (jR (t:=oK Z [0,0,0,0] 0 _)
   (aE false 3 nd (az T.d_first_fault (kI T) hr (ab (aa 2) ag)))
  (jR (t:=oK Z [0,0,0,0] 0 _)
   (bX (bp Gg (aa 3) cR (bw _)) (aq wB) bg)
  (BP (Lr (pv 0) (pv 2) rfl))))),?_⟩
 have lw:(w'.map ao).length=w'.length:=aK _;refine ⟨⟨G,H,G⟩,[some (.obj p),some (aN w'),none,none],{nx:=λρ=>ρ= [some (.obj p),some (aN w'),none,none],rt:=λ_=>False},⟨G,λ_=> [],?_⟩,?_,⟨?_,λ_ z=>z.elim,λ_ z=>z.elim,λ_ z=>z.elim⟩⟩
 ·refine ⟨.refl sG, .refl _,rfl,λi d hi=>?_,λ_=>kW,(λ_ _ _ _ z=>by cases z),(λ_ _ z=>by cases z)⟩
  match i,hi with
  |0,hi=>cases hi;exact ⟨_,rfl, .obj p,rfl⟩
  |1,hi=>cases hi;exact ⟨_,rfl,dv,rfl⟩
  |2,hi=>cases hi
  |3,hi=>cases hi
  |i+4,hi=>cases hi
 ·have e1:D.bl (decide ((1:Int)≤((w'.map ao).length:Int)))= .bl true:=congrArg D.bl (decide_eq_true (by rw [lw];omega))
  have e2:D.bl (decide (((w'.map ao).length:Int)≤14))= .bl true:=congrArg D.bl (decide_eq_true (by rw [lw];omega))
  exact ⟨_,rfl,true,e1,cM ⟨true,e2,cF rfl⟩⟩
 rintro _ rfl Et H1 S1;refine ⟨⟨G,H,G⟩,_,{nx:=λρ=>ρ= [some (.obj p),some (aN w'),some (aN w'),none],rt:=λ_=>False},S1,?_,⟨?_,λ_ z=>z.elim,λ_ z=>z.elim,λ_ z=>z.elim⟩⟩
 ·exact ⟨_,rfl,j9 (ρ:= [none]) ao ao w' _ (λy hy Y h=>⟨_,rfl,h⟩) rfl (small (by omega)) λaA=>⟨trivial,rfl⟩⟩
 rintro _ rfl dY H2 S2;refine ⟨⟨G,H,G⟩,_,{nx:=λρ=>ρ= [some (.obj p),some (aN w'),some (aN w'),some .bf],rt:=λ_=>False},S2,?_,⟨?_,λ_ z=>z.elim,λ_ z=>z.elim,λ_ z=>z.elim⟩⟩
 ·exact ⟨_,rfl,w',rfl,g,h1,bE,trivial,rfl⟩
 rintro _ rfl td H3 S3;refine ⟨⟨G,H,G⟩,_,{nx:=λρ=>ρ= [some (.obj p),some (aN w'),some (aN w'),some .bf],rt:=λ_=>False},S3,?_,⟨?_,λ_ z=>z.elim,λ_ z=>z.elim,λ_ z=>z.elim⟩⟩
 ·exact ⟨_,rfl,_,rfl,cF rfl⟩
 rintro _ rfl eF H4 ⟨G4,fp,S4⟩;obtain ⟨v0,Ig,o0⟩:=S4.at_ 0 _ rfl;obtain ⟨v2,X5,o2⟩:=S4.at_ 2 _ rfl;obtain ⟨d0,_⟩:=o0;obtain ⟨d2,_⟩:=o2;cases d0;have WI:=d2;cases d2 with
 | @lst R xs ds hR e=>
  have XZ:=S4.ex.hh _ _ hp;refine ⟨_,X5,_,Ig,p,Z.C,dx,[],rfl,XZ,T.W.cl,T.W.nR,by decide,?_⟩
  have g4:G4 p=none:=S4.ex.off p (by show H p≠none;rw [hp];exact λz=>nomatch z) gp
  refine q R G4 _ S4.ex.gg (λb o eb=>?_) (λb o eb nb=>?_) S4.ex.off ax WI
  ·rw [aF (aW eb g4)];exact S4.ex.sub _ _ eb
  ·rw [aF nb];exact S4.ex.hh _ _ eb
def JL:dD:=λds P=>∃(w:W),ds= [.eE w]∧w.length≤14∧P (aN w)
theorem nS:FnOk P w Z.K mg base cO 1 T.m_turns.f T.m_turns.fd ["self"] (aV Z JL):=by
 have nd:=nV.nd;refine br T.m_turns.F nV [0] (by decide) (λds R h=>by obtain ⟨_,rfl,_⟩:=h;rfl) (λbF A outer s H E ds R hr h=>?_)
 have hu:=hr.units;refine ⟨_,(aq (aJ (t5 (NC:= ["row"]) (src:= [none]) rfl (sI (av ij)) trivial (cE (t6 T.W (aa 0))) (λ_ _ _=>(cD 0 (show (["row"]:List Str).Nodup from by decide+kernel))) (λ_ _ _=>fm) (λ_ _ _=>(j3 oZ rfl T.B.list lJ (ab (aa 0) ag)))))),?_⟩
 obtain ⟨w',rfl,bE,q⟩:=h;exact ⟨_,rfl,w',rfl,j9 (ρ:= [none]) ao ao w' _ (λy hy Y h=>⟨_,rfl,h⟩) rfl (small (by omega)) λaA=>q⟩
end oh
namespace Wb
theorem bK{a b:List Nat}{x y:Nat}(nd:(a++x::y::b).Nodup):ae (a++x::y::b) x=y:=by
 have hx:x∉a:=λh=>by
  have:=(fe.mp nd).2.2 x h x (cB ..)
  exact this rfl
 have e:(a++x::y::b).idxOf x=a.length:=by
  rw [List.idxOf_append,if_neg hx,List.idxOf_cons_self];simp
 unfold ae;rw [e,mM (by simp),aS,fZ (by omega)]
 simp
theorem cT{b:List Nat}{x y:Nat}(nd:(y::(b++ [x])).Nodup):ae (y::(b++ [x])) x=y:=by
 have hx:x∉y::b:=λh=>by
  have h2:(y::b++ [x]).Nodup:=nd;exact (fe.mp h2).2.2 x h x (by simp) rfl
 have e:(y::(b++ [x])).idxOf x=b.length+1:=by
  show (y::b++ [x]).idxOf x=_;rw [List.idxOf_append,if_neg hx];simp
 unfold ae;rw [e]
 have:(b.length+1+1)%(y::(b++ [x])).length=0:=by simp
 rw [this];rfl
theorem fD{a b:List Nat}{x:Nat}(nd:(a++b).Nodup)(h:x∈a++b):ae (b++a) x=ae (a++b) x:=by
 have jL:(b++a).Nodup:=(fj.nodup_iff).mp nd;obtain ⟨u,v,e⟩:=List.append_of_mem h;cases v with
 |cons y v=>
  rw [e,bK (e▸nd)]
  rcases List.append_eq_append_iff.mp e with ⟨c,h1,h2⟩ | ⟨c,h1,h2⟩
  ·
   rw [h2,show c++x::y::v++a=c++x::y::(v++a) by simp]
   refine bK ?_;rw [h2] at jL;simpa using jL
  ·
   cases c with
   |nil=>
    have hb:b=x::y::v:=by simpa using h2.symm
    rw [hb,show x::y::v++a= []++x::y::(v++a) by simp]
    refine bK ?_;rw [hb] at jL;simpa using jL
   |cons z c=>
    have hz:x=z∧y::v=c++b:=by simpa using h2
    obtain ⟨rfl,h3⟩:=hz;cases c with
    |nil=>
     have hb:b=y::v:=by simpa using h3.symm
     rw [h1,hb,show y::v++(u++ [x])=y::((v++u)++ [x]) by simp]
     refine cT ?_;rw [h1,hb] at jL;simpa using jL
    |cons z c=>
     have hz:y=z∧v=c++b:=by simpa using h3
     obtain ⟨rfl,rfl⟩:=hz;rw [h1,show b++(u++x::y::c)=(b++u)++x::y::c by simp]
     refine bK ?_;rw [h1] at jL;simpa using jL
 |nil=>
  cases b with
  |nil=>simp
  |cons y b=>
   rcases AB b with rfl| ⟨b',z,rfl⟩
   ·
    have:a=u∧y=x:=by
     have:=List.append_inj' e rfl
     exact ⟨this.1,by simpa using this.2⟩
    obtain ⟨rfl,rfl⟩:=this;cases a with
    |nil=>rfl
    |cons t a=>
     have e1:ae (t::a++ [y]) y=t:=cT (b:=a) nd;rw [e1];show ae ([]++y::t::a) y=t;exact bK (by simpa using jL)
   ·have hx:z=x:=by
     rw [Co] at e;have e:(a++y::b')++ [z]=u++ [x]:=by simpa using e
     exact by simpa using (List.append_inj' e rfl).2
    subst hx;rw [Co] at nd jL ⊢;cases a with
    |nil=>simp
    |cons t a=>
     have e1:ae (t::a++y::(b'++ [z])) z=t:=by
      have:=cT (y:=t) (b:=a++y::b') (x:=z) (by simpa using nd)
      simpa using this
     have e2:ae (y::(b'++ [z])++t::a) z=t:=by
      have:=bK (a:=y::b') (x:=z) (y:=t) (b:=a) (by simpa using jL)
      simpa using this
     rw [e1,e2]
structure Disc (w:W) (R:List Nat) (A:Nat×Nat→Prop):Prop where
 nd:R.Nodup
 len:3≤R.length
 dart:∀d,A d→aG w d
 face:∀d,aG w d→(A d↔A (aX w d))
 tri:∀d,A d→aX w (aX w (aX w d))=d
 ring:∀p∈R,aG w (ae R p,p)∧A (ae R p,p)∧¬A (p,ae R p)
 sym:∀p q,aG w (p,q)→¬(p∈R∧q=ae R p)→¬(q∈R∧p=ae R q)→(A (p,q)↔A (q,p))
structure VJ (w:W) (v:Nat) (m:Nat) (y:Nat→Nat):Prop where
 on:∀k,k<m→ae (row w v) (y k)=y (k+1)
 mem:∀k,k≤m→y k∈row w v
 inj:∀i j,i≤m→j≤m→y i=y j→i=j
 pos:1≤m
structure At (w:W) (R:List Nat) (v:Nat) (m:Nat) (y:Nat→Nat):Prop where
 fan:VJ w v m y
 vm:v∈R
 nx:y 0=ae R v
 pm:y m∈R
 pv:ae R (y m)=v
theorem aC{l:List Nat}{i:Nat}(nd:l.Nodup)(h:i+1<l.length):ae l (l.getD i 0)=l.getD (i+1) 0:=by
 have e:l.getD i 0=l[i]:=by rw [aS,bA (by omega)];rfl
 unfold ae;rw [e,nd.idxOf_getElem i (by omega),mM h]
theorem aY{l:List Nat}{i:Nat}(nd:l.Nodup)(h:i+1=l.length):ae l (l.getD i 0)=l.getD 0 0:=by
 have e:l.getD i 0=l[i]:=by rw [aS,bA (by omega)];rfl
 unfold ae;rw [e,nd.idxOf_getElem i (by omega),h,rG]
section
variable {w:W} {R:List Nat} {A:Nat×Nat→Prop} {v m:Nat} {y:Nat→Nat}
theorem At.ne(g:Good w)(F:At w R v m y){k:Nat}(hk:k≤m):y k≠v:=λe=>g.irr v (by have:=F.fan.mem k hk;rw [e] at this;exact this)
theorem At.dart(g:Good w)(F:At w R v m y){k:Nat}(hk:k≤m):aG w (y k,v):=g.sym _ _ (F.fan.mem k hk)
theorem At.BF(F:At w R v m y){k:Nat}(hk:k<m):aX w (y k,v)=(v,y (k+1)):=by
 show (v,ae (row w v) (y k))=_;rw [F.fan.on k hk]
theorem At.ym(D:Disc w R A)(F:At w R v m y){k:Nat}(hk:k≤m)(hR:y k∈R)(e:v=ae R (y k)):k=m:=by
 have:=F.pv
 rw [e] at this;exact F.fan.inj k m hk (bx _) (df D.nd hR F.pm this.symm)
theorem At.y0(F:At w R v m y){k:Nat}(hk:k≤m)(e:y k=ae R v):k=0:=F.fan.inj k 0 hk (cw _) (by rw [e,F.nx])
theorem At.Ii(g:Good w)(D:Disc w R A)(F:At w R v m y):∀k,k<m→A (y k,v)∧A (v,y (k+1))
 |0,h=>by
  have a:A (y 0,v):=by rw [F.nx];exact (D.ring v F.vm).2.1
  refine ⟨a,?_⟩
  have:=(D.face _ (F.dart g (cw _))).mp a
  rw [F.BF h] at this;exact this
 |k+1,h=>by
  have ih:=(F.Ii g D k (by omega)).2
  have a:A (y (k+1),v):=by
   refine (D.sym v (y (k+1)) (F.fan.mem (k+1) (by omega)) (λz=>?_) (λz=>?_)).mp ih
   ·have:=F.y0 (by omega) z.2;omega
   ·have:=F.ym D (by omega) z.1 z.2;omega
  refine ⟨a,?_⟩
  have:=(D.face _ (F.dart g (by omega))).mp a
  rw [F.BF h] at this;exact this
theorem At.IJ(g:Good w)(D:Disc w R A)(F:At w R v m y){k:Nat}(hk:k<m):aX w (v,y (k+1))=(y (k+1),y k)∧aX w (y (k+1),y k)=(y k,v)∧A (y (k+1),y k):=by
 have a:=F.Ii g D k hk;have t:=D.tri _ a.1;rw [F.BF hk] at t
 have e:aX w (v,y (k+1))=(y (k+1),y k):=by
  have h1:(aX w (aX w (v,y (k+1)))).1=y k:=by rw [t]
  show (y (k+1),ae (row w (y (k+1))) v)=_;exact congrArg (Prod.mk _) h1
 refine ⟨e,by rw [e] at t;exact t,?_⟩
 have:=(D.face _ (D.dart _ a.2)).mp a.2
 rw [e] at this;exact this
def fh(v m:Nat)(y:Nat→Nat)(d:Nat×Nat):Prop:=∃k,k<m∧(d=(y k,v)∨d=(v,y (k+1))∨d=(y (k+1),y k))
theorem At.MY(g:Good w)(D:Disc w R A)(F:At w R v m y){d:Nat×Nat}(hd:aG w d):fh v m y d↔fh v m y (aX w d):=by
 constructor
 ·rintro ⟨k,hk,h⟩
  have b:=F.IJ g D hk;refine ⟨k,hk,?_⟩
  rcases h with rfl|rfl|rfl
  ·rw [F.BF hk];exact .inr (.inl rfl)
  ·rw [b.1];exact .inr (.inr rfl)
  ·rw [b.2.1];exact .inl rfl
 ·rintro ⟨k,hk,h⟩
  have b:=F.IJ g D hk;have a:=F.Ii g D k hk;refine ⟨k,hk,?_⟩
  rcases h with h|h|h
  ·exact .inr (.inr (jM g hd (D.dart _ b.2.2) (by rw [h,b.2.1])))
  ·exact .inl (jM g hd (D.dart _ a.1) (by rw [h,F.BF hk]))
  ·exact .inr (.inl (jM g hd (D.dart _ a.2) (by rw [h,b.1])))
def cG(pre:List Nat)(m:Nat)(y:Nat→Nat):List Nat:=pre++(List.range m).map λi=>y (m-i)
theorem kc(pre:List Nat)(m:Nat)(y:Nat→Nat):(cG pre m y).length=pre.length+m:=by unfold cG;simp
theorem qR{pre:List Nat}{m i:Nat}{y:Nat→Nat}(h:i<pre.length):(cG pre m y).getD i 0=pre.getD i 0:=by
 unfold cG;rw [aS,eB h,←aS]
theorem qQ{pre:List Nat}{m i:Nat}{y:Nat→Nat}(h:i<m):(cG pre m y).getD (pre.length+i) 0=y (m-i):=by
 unfold cG;rw [aS,fZ (by omega),show pre.length+i-pre.length=i by omega,fc,AD h];rfl
theorem dG{pre:List Nat}{m p:Nat}{y:Nat→Nat}:p∈cG pre m y↔p∈pre∨∃k,1≤k∧k≤m∧p=y k:=by
 unfold cG;rw [cv,fg]
 constructor
 ·rintro (h| ⟨i,hi,rfl⟩)
  ·exact .inl h
  ·have:=bH.mp hi
   exact .inr ⟨m-i,by omega,by omega,rfl⟩
 ·rintro (h| ⟨k,h1,h2,rfl⟩)
  ·exact .inl h
  ·exact .inr ⟨m-k,bH.mpr (by omega),by rw [show m-(m-k)=k by omega]⟩
theorem Dq(g:Good w)(D:Disc w R A)(F:At w R v m y){pre:List Nat}(hR:R=pre++ [y m,v])(h0:pre.getD 0 0=y 0)(hp:pre≠ [])(Bj:∀k,0<k→k<m→y k∉R)(hl:3≤pre.length+m):
  Disc w (cG pre m y) λd=>A d∧¬fh v m y d:=by
 have lq:=D.nd;have lR:R.length=pre.length+2:=by rw [hR];simp
 have E9:0<pre.length:=vG.mpr hp;have BO:∀p∈pre,p∈R:=λp h=>by rw [hR];exact fb _ h
 have Z8:pre.Nodup:=by rw [hR] at lq;exact (fe.mp lq).1
 have pv:∀p∈pre,p≠v∧p≠y m:=λp h=>by
  rw [hR] at lq
  have:=(fe.mp lq).2.2 p h
  exact ⟨this v (by simp),this (y m) (by simp)⟩
 have m0:y 0∈pre:=by
  rw [←h0,aS,bA E9];exact qA E9
 have out:∀k,1≤k→k≤m→y k∉pre:=λk h1 h2 hk=>by
  by_cases e:k=m
  ·subst e;exact (pv _ hk).2 rfl
  ·exact Bj k (by omega) (by omega) (BO _ hk)
 have sP:(cG pre m y).Nodup:=by
  unfold cG;refine fe.mpr ⟨Z8,?_,λa ha b hb e=>?_⟩
  ·unfold List.Nodup
   rw [kS];refine List.Pairwise.imp_of_mem (λ {i j} hi hj h e=>?_) kF
   have:=bH.mp hi
   have:=bH.mp hj
   have:=F.fan.inj (m-i) (m-j) (by omega) (by omega) e
   omega
  ·obtain ⟨i,hi,rfl⟩:=fg.mp hb
   have:=bH.mp hi
   subst e;exact out (m-i) (by omega) (by omega) ha
 have EJ:∀i,i<pre.length→R.getD i 0=pre.getD i 0:=λi hi=>by
  rw [hR,aS,eB hi,←aS]
 have N2:R.getD pre.length 0=y m:=by
  rw [hR,aS,fZ (bx _)];simp
 have MS:∀p∈pre,ae (cG pre m y) p=ae R p:=λp h=>by
  obtain ⟨i,hi,rfl⟩:=fK.mp h;have e:pre[i]=pre.getD i 0:=by rw [aS,bA hi];rfl
  have l1:ae R (R.getD i 0)=R.getD (i+1) 0:=aC lq (by omega)
  have mp:=F.fan.pos;have l2:ae (cG pre m y) ((cG pre m y).getD i 0)=(cG pre m y).getD (i+1) 0:=aC sP (by rw [kc];omega)
  rw [EJ i hi] at l1;rw [qR hi] at l2;rw [e,l1,l2]
  by_cases c:i+1<pre.length
  ·rw [qR c,EJ _ c]
  ·have c:i+1=pre.length:=by omega
   have:=qQ (pre:=pre) (y:=y) (m:=m) (i:=0) (by omega)
   rw [c,N2];simpa using this
 have sY:∀k,1≤k→k≤m→ae (cG pre m y) (y k)=y (k-1):=λk h1 h2=>by
  have e1:=qQ (pre:=pre) (y:=y) (m:=m) (i:=m-k) (by omega)
  rw [show m-(m-k)=k by omega] at e1
  rw [←e1]
  by_cases c:k=1
  ·rw [aY sP (by rw [kc];omega),qR E9,h0,c]
  ·rw [aC sP (by rw [kc];omega)]
   have e2:=qQ (pre:=pre) (y:=y) (m:=m) (i:=m-k+1) (by omega)
   rw [show pre.length+(m-k)+1=pre.length+(m-k+1) by omega,e2,show m-(m-k+1)=k-1 by omega]
 have three:m=1→ae R (y 0)≠y 1:=λhm e=>by
  have e0:R.getD 0 0=y 0:=by rw [EJ 0 E9,h0]
  have s0:=aC lq (i:=0) (by omega)
  rw [e0,e] at s0
  by_cases c:1<pre.length
  ·rw [EJ 1 c] at s0
   have:y 1∈pre:=by rw [s0,aS,bA c];exact qA c
   exact out 1 (by omega) (by omega) this
  ·omega
 have Vj:∀k,1≤k→k≤m→A (y (k-1),y k):=λk h1 h2=>by
  have b:=F.IJ g D (k:=k-1) (by omega)
  rw [show k-1+1=k by omega] at b
  have iZ:∀i,i≤m→y i∈R→i=0∨i=m:=λi hi h=>by
   by_cases c:0<i∧i<m
   ·exact absurd h (Bj i c.1 c.2)
   ·omega
  refine (D.sym _ _ (D.dart _ b.2.2) (λz=>?_) (λz=>?_)).mp b.2.2
  ·have r2:y (k-1)∈R:=by rw [z.2];exact bq z.1
   have i1:=iZ k h2 z.1;have i2:=iZ (k-1) (by omega) r2
   have hm:m=1:=by omega
   have hk:k=1:=by omega
   subst hk;have e:=z.2;have p:=F.pv;rw [hm] at p;rw [p] at e;exact F.ne g (k:=0) (cw _) e
  ·have r2:y k∈R:=by rw [z.2];exact bq z.1
   have i1:=iZ k h2 r2;have i2:=iZ (k-1) (by omega) z.1
   have hm:m=1:=by omega
   have hk:k=1:=by omega
   subst hk;exact three hm z.2.symm
 refine ⟨sP,by rw [kc];exact hl,λd h=>D.dart d h.1,λd hd=>?_,λd h=>D.tri d h.1,λp h8=>?_,λp q hd n1 n2=>?_⟩
 ·rw [D.face d hd,F.MY g D hd]
 ·rcases dG.mp h8 with h| ⟨k,h1,h2,rfl⟩
  ·rw [MS p h]
   have r:=D.ring p (BO p h);refine ⟨r.1,⟨r.2.1,?_⟩,λz=>r.2.2 z.1⟩;rintro ⟨k,hk,e|e|e⟩
   ·exact (pv p h).1 (congrArg Prod.snd e)
   ·have:ae R p=v:=congrArg Prod.fst e
    have e2:=congrArg Prod.snd e;exact out (k+1) (by omega) (by omega) (by rw [←(show p=y (k+1) from e2)];exact h)
   ·have e1:ae R p=y (k+1):=congrArg Prod.fst e
    have e2:p=y k:=congrArg Prod.snd e
    have k0:k=0:=by
     by_cases c:k=0
     ·exact c
     ·exact absurd (e2▸h) (out k (by omega) (by omega))
    subst k0
    have:y 1∈R:=by rw [←(show ae R p=y 1 from e1)];exact bq (BO p h)
    have hm:m=1:=by
     by_cases c:1<m
     ·exact absurd this (Bj 1 (by omega) c)
     ·omega
    rw [e2] at e1;exact three hm e1
  ·rw [sY k h1 h2]
   have a:=Vj k h1 h2;refine ⟨D.dart _ a,⟨a,?_⟩,λz=>z.2 ⟨k-1,by omega, .inr (.inr (by rw [show k-1+1=k by omega]))⟩⟩
   rintro ⟨j,hj,e|e|e⟩
   ·exact F.ne g (k:=k) h2 (congrArg Prod.snd e)
   ·exact F.ne g (k:=k-1) (by omega) (congrArg Prod.fst e)
   ·have e1:=F.fan.inj (k-1) (j+1) (by omega) (by omega) (congrArg Prod.fst e)
    have e2:=F.fan.inj k j (by omega) (by omega) (congrArg Prod.snd e)
    omega
 ·
  have one:∀p q,aG w (p,q)→¬(p∈cG pre m y∧q=ae (cG pre m y) p)→¬(q∈cG pre m y∧p=ae (cG pre m y) q)→(A (p,q)∧¬fh v m y (p,q))→(A (q,p)∧¬fh v m y (q,p)):=by
   intro p q hd n1 n2 ⟨a,nt⟩;have r1:¬(p∈R∧q=ae R p):=λz=>(D.ring p z.1).2.2 (by rw [←z.2];exact a)
   have r2:¬(q∈R∧p=ae R q):=λz=>by
    have hq:=z.1;rw [hR] at hq
    rcases cv.mp hq with h|h
    ·exact n2 ⟨dG.mpr (.inl h),by rw [MS q h];exact z.2⟩
    ·have h:q=y m∨q=v:=by simpa using h
     rcases h with rfl|rfl
     ·have:p=v:=by rw [z.2];exact F.pv
      subst this;exact nt ⟨m-1,by have:=F.fan.pos;omega, .inr (.inl (by rw [show m-1+1=m by have:=F.fan.pos;omega]))⟩
     ·have:p=y 0:=by rw [z.2,F.nx]
      subst this;exact nt ⟨0,F.fan.pos, .inl rfl⟩
   refine ⟨(D.sym p q hd r1 r2).mp a,?_⟩;rintro ⟨k,hk,e|e|e⟩
   ·have e1:q=y k:=congrArg Prod.fst e
    have e2:p=v:=congrArg Prod.snd e;subst e1 e2
    by_cases c:k=0
    ·subst c;exact r1 ⟨F.vm,F.nx⟩
    ·exact nt ⟨k-1,by omega, .inr (.inl (by rw [show k-1+1=k by omega]))⟩
   ·have e1:q=v:=congrArg Prod.fst e
    have e2:p=y (k+1):=congrArg Prod.snd e;subst e1 e2
    by_cases c:k+1=m
    ·exact r1 ⟨by rw [c];exact F.pm,by rw [c];exact F.pv.symm⟩
    ·exact nt ⟨k+1,by omega, .inl rfl⟩
   ·have e1:q=y (k+1):=congrArg Prod.fst e
    have e2:p=y k:=congrArg Prod.snd e;subst e1 e2;exact n2 ⟨dG.mpr (.inr ⟨k+1,by omega,by omega,rfl⟩),by rw [sY (k+1) (by omega) (by omega)];rfl⟩
  exact ⟨one p q hd n1 n2,one q p (g.sym _ _ hd) n2 n1⟩
end
theorem Disc.D3{w:W}{a b:List Nat}{A:Nat×Nat→Prop}(D:Disc w (a++b) A):Disc w (b++a) A:=by
 have mem:∀p,p∈b++a↔p∈a++b:=λp=>fj.mem_iff;have s:∀p,p∈b++a→ae (b++a) p=ae (a++b) p:=λp h=>fD D.nd ((mem p).mp h);refine ⟨(fj.nodup_iff).mp D.nd,by have:=D.len;simp at this ⊢;omega,D.dart,D.face,D.tri,λp hp=>?_,λp q hd n1 n2=>?_⟩
 ·rw [s p hp];exact D.ring p ((mem p).mp hp)
 ·refine D.sym p q hd (λz=>n1 ⟨(mem p).mpr z.1,?_⟩) (λz=>n2 ⟨(mem q).mpr z.1,?_⟩)
  ·rw [s p ((mem p).mpr z.1)];exact z.2
  ·rw [s q ((mem q).mpr z.1)];exact z.2
def bT(l:List Nat)(a:Nat):List Nat:=l.drop (l.idxOf a)++l.take (l.idxOf a)
theorem iO(l:List Nat)(a:Nat):(bT l a).Perm l:=by
 unfold bT;exact fj.trans (by rw [gO])
theorem m8(l:List Nat)(a:Nat):(bT l a).length=l.length:=(iO l a).length_eq
theorem D4{l:List Nat}{a x:Nat}(nd:l.Nodup)(hx:x∈l):ae (bT l a) x=ae l x:=by
 unfold bT;have e:l.take (l.idxOf a)++l.drop (l.idxOf a)=l:=gO _ _
 have:=fD (a:=l.take (l.idxOf a)) (b:=l.drop (l.idxOf a)) (x:=x) (by rw [e];exact nd) (by rw [e];exact hx)
 rw [this,e]
theorem uT{l:List Nat}{a:Nat}(h:a∈l):(bT l a).getD 0 0=a:=by
 have hl:=gN.mpr h;unfold bT;rw [aS,eB (by rw [fw];omega),qy,Nat.add_zero,bA hl,iU hl];rfl
theorem getD_inj{l:List Nat}(nd:l.Nodup){i j:Nat}(hi:i<l.length)(hj:j<l.length)(e:l.getD i 0=l.getD j 0):i=j:=by
 have ei:l.getD i 0=l[i]:=by rw [aS,bA hi];rfl
 have ej:l.getD j 0=l[j]:=by rw [aS,bA hj];rfl
 rw [ei,ej] at e;have h1:=nd.idxOf_getElem i hi;have h2:=nd.idxOf_getElem j hj;rw [e,h2] at h1;exact h1.symm
theorem aD{l:List Nat}{i:Nat}(h:i<l.length):l.getD i 0∈l:=by
 rw [aS,bA h];exact qA h
theorem p9{R:List Nat}{x:Nat}(nd:R.Nodup)(h:x∈R):∃b,b∈R∧ae R b=x:=by
 obtain ⟨i,hi,rfl⟩:=fK.mp h;have e:R[i]=R.getD i 0:=by rw [aS,bA hi];rfl
 by_cases c:i=0
 ·subst c
  exact ⟨R.getD (R.length-1) 0,aD (by omega),by rw [aY nd (by omega),e]⟩
 ·refine ⟨R.getD (i-1) 0,aD (by omega),?_⟩
  rw [aC nd (by omega),show i-1+1=i by omega,e]
structure Whole (w:W) (R:List Nat) (v m L:Nat) (y:Nat→Nat):Prop where
 at_:At w R v m y
 lt:m<L
 on:∀k,k+1<L→ae (row w v) (y k)=y (k+1)
 all:∀z,z∈row w v→∃k,k<L∧y k=z
 inj:∀i j,i<L→j<L→y i=y j→i=j
 mem:∀k,k<L→y k∈row w v
section
variable {w:W} {R:List Nat} {A:Nat×Nat→Prop}
theorem nk(g:Good w)(D:Disc w R A){v:Nat}(hv:v∈R){b:Nat}(hb:b∈R)(eb:ae R b=v):
  Whole w R v ((bT (row w v) (ae R v)).idxOf b) (row w v).length λk=>(bT (row w v) (ae R v)).getD k 0:=by
 have a:=(D.ring v hv).1;have am:ae R v∈row w v:=g.sym _ _ a
 have bm:b∈row w v:=by
  have:=(D.ring b hb).1
  rw [eb] at this;exact this
 have IF:=g.nod v;have jL:(bT (row w v) (ae R v)).Nodup:=(iO _ _).nodup_iff.mpr IF;have ll:=m8 (row w v) (ae R v);have EU:∀z,z∈bT (row w v) (ae R v)↔z∈row w v:=λz=>(iO _ _).mem_iff;have bl:=gN.mpr ((EU b).mpr bm)
 have gb:(bT (row w v) (ae R v)).getD ((bT (row w v) (ae R v)).idxOf b) 0=b:=by
  rw [aS,bA bl,iU bl];rfl
 have on:∀k,k+1<(row w v).length→ae (row w v) ((bT (row w v) (ae R v)).getD k 0)=(bT (row w v) (ae R v)).getD (k+1) 0:=λk hk=>by
  rw [←D4 (a:=ae R v) IF ((EU _).mp (aD (by omega)))]
  exact aC jL (by omega)
 have mem:∀k,k<(row w v).length→(bT (row w v) (ae R v)).getD k 0∈row w v:=λk hk=>(EU _).mp (aD (by omega))
 have inj:∀i j,i<(row w v).length→j<(row w v).length→(bT (row w v) (ae R v)).getD i 0=(bT (row w v) (ae R v)).getD j 0→i=j:=λi j hi hj e=>getD_inj jL (by omega) (by omega) e
 have C2:ae R v≠b:=by
  intro e;have h1:=D.len;obtain ⟨i,hi,rfl⟩:=fK.mp hv;have ei:R[i]=R.getD i 0:=by rw [aS,bA hi];rfl
  rw [←e,ei] at eb
  by_cases c:i+1<R.length
  ·rw [aC D.nd c] at eb
   by_cases c2:i+2<R.length
   ·rw [aC D.nd c2] at eb
    have:=getD_inj D.nd (by omega) (by omega) eb;omega
   ·rw [aY D.nd (by omega)] at eb
    have:=getD_inj D.nd (by omega) (by omega) eb;omega
  ·rw [aY D.nd (by omega),aC D.nd (by omega)] at eb
   have:=getD_inj D.nd (by omega) (by omega) eb;omega
 have h0:=uT am;refine ⟨⟨⟨λk hk=>on k (by omega),λk hk=>mem k (by omega),λi j hi hj e=>inj i j (by omega) (by omega) e,?_⟩,hv,h0,by rw [gb];exact hb,by rw [gb];exact eb⟩,by omega,on,λz hz=>?_,inj,mem⟩
 ·apply Classical.byContradiction
  intro c;have c:(bT (row w v) (ae R v)).idxOf b=0:=by omega
  rw [c,h0] at gb;exact C2 gb
 ·have zl:=gN.mpr ((EU z).mpr hz)
  exact ⟨(bT (row w v) (ae R v)).idxOf z,by omega,by rw [aS,bA zl,iU zl];rfl⟩
theorem Whole.out(g:Good w)(D:Disc w R A){v m L:Nat}{y:Nat→Nat}(F:Whole w R v m L y):∀k,m+k<L→1≤k→¬A (v,y (m+k))
 |0,_,h=>by omega
 |k+1,hk,_=>by
  have d:aG w (y (m+k),v):=g.sym _ _ (F.mem _ (by omega))
  have e:aX w (y (m+k),v)=(v,y (m+(k+1))):=by
   show (v,ae (row w v) (y (m+k)))=_;rw [F.on _ (by omega)];rfl
  have nA:¬A (y (m+k),v):=by
   by_cases c:k=0
   ·subst c
    have:=(D.ring (y m) F.at_.pm).2.2
    rw [F.at_.pv] at this;exact this
   ·intro a
    refine F.out g D k (by omega) (by omega) ((D.sym v (y (m+k)) (F.mem _ (by omega)) (λz=>?_) (λz=>?_)).mpr a)
    ·have:=F.inj (m+k) 0 (by omega) (by omega) (by rw [z.2,F.at_.nx]);omega
    ·have:=F.at_.pv
     have e2:=df D.nd z.1 F.at_.pm (by rw [this];exact z.2.symm)
     have:=F.inj (m+k) m (by omega) (by omega) e2;omega
  intro a;rw [←e] at a;exact nA ((D.face _ d).mpr a)
theorem Whole.between(g:Good w)(D:Disc w R A){v m L:Nat}{y:Nat→Nat}(F:Whole w R v m L y){z:Nat}(hz:A (v,z)):∃k,1≤k∧k≤m∧y k=z:=by
 obtain ⟨k,hk,rfl⟩:=F.all z (D.dart _ hz);refine ⟨k,?_,?_,rfl⟩
 ·apply Classical.byContradiction
  intro c;have c:k=0:=by omega
  subst c;rw [F.at_.nx] at hz;exact (D.ring v F.at_.vm).2.2 hz
 ·apply Classical.byContradiction
  intro c
  have:=F.out g D (k-m) (by omega) (by omega)
  rw [show m+(k-m)=k by omega] at this
  exact this hz
def bL(C:List Nat)(x y:Nat):Prop:=x∈C∧y=ae C x
structure Bd (w:W) (C:List Nat) (S:Nat×Nat→Prop):Prop where
 face:∀d,aG w d→(S d↔S (aX w d))
 no:∀x y,aG w (x,y)→¬bL C x y→¬bL C y x→(S (x,y)↔S (y,x))
 yes:∀x y,aG w (x,y)→bL C x y∨bL C y x→(S (x,y)↔¬S (y,x))
theorem Bd.neg{C:List Nat}{S:Nat×Nat→Prop}(B:Bd w C S):Bd w C λd=>¬S d:=
 ⟨λd h=>not_congr (B.face d h),λx y h a b=>not_congr (B.no x y h a b),λx y h a=>not_congr (B.yes x y h a)⟩
theorem Whole.seg(g:Good w){v m L:Nat}{y:Nat→Nat}(F:Whole w R v m L y){C:List Nat}{S:Nat×Nat→Prop}(B:Bd w C S){i:Nat}:∀n,i+n+1<L→(∀k,i<k→k≤i+n→¬bL C v (y k)∧¬bL C (y k) v)→(S (y i,v)↔S (v,y (i+n+1)))
 |0,h,_=>by
  have d:aG w (y i,v):=g.sym _ _ (F.mem _ (by omega))
  have e:aX w (y i,v)=(v,y (i+0+1)):=by
   show (v,ae (row w v) (y i))=_;rw [F.on _ (by omega)]
  rw [B.face _ d,e]
 |n+1,h,q=>by
  have ih:=F.seg g B n (by omega) λk h1 h2=>q k h1 (by omega)
  have c:=q (i+n+1) (by omega) (by omega)
  have s:=B.no v (y (i+n+1)) (F.mem _ (by omega)) c.1 c.2
  have d:aG w (y (i+n+1),v):=g.sym _ _ (F.mem _ (by omega))
  have e:aX w (y (i+n+1),v)=(v,y (i+(n+1)+1)):=by
   show (v,ae (row w v) (y (i+n+1)))=_;rw [F.on _ (by omega)];rfl
  rw [ih,s,B.face _ d,e]
theorem oU{a b:List Nat}{z x:Nat}(nd:(a++ [z]++b).Nodup)(hx:x∈a):ae (a++ [z]++b) x=ae (a++ [z]) x:=by
 have uB:(a++ [z]).Nodup:=(fe.mp nd).1;obtain ⟨i,hi,rfl⟩:=fK.mp hx
 have e1:(a++ [z]++b).getD i 0=a[i]:=by
  rw [aS,kR,eB hi,bA hi];rfl
 have e2:(a++ [z]).getD i 0=a[i]:=by
  rw [aS,eB hi,bA hi];rfl
 have h1:=aC (i:=i) nd (by simp;omega)
 have h2:=aC (i:=i) uB (by simp;omega)
 rw [e1] at h1;rw [e2] at h2;rw [h1,h2,aS,eB (by simp;omega),←aS]
theorem parted(g:Good w)(D:Disc w R A){p q:Nat}{B C:List Nat}(hR:R=p::(B++q::C))(hB:B≠ [])(hC:C≠ [])(ch:A (p,q)){S:Nat×Nat→Prop}(bd:Bd w (p::(B++ [q])) S)(hs:S (ae R p,p)):
  Disc w (p::(B++ [q])) (λd=>A d∧S d)∧Disc w (q::(C++ [p])) (λd=>A d∧¬S d):=by
 have lq:=D.nd;have HR:R=(p::B)++ [q]++C:=by rw [hR];simp
 have Bh:R=(p::B)++(q::C):=by rw [hR];simp
 have IF:((q::C)++ [p]++B).Nodup:=by
  have:((q::C)++(p::B)).Nodup:=fj.nodup_iff.mp (Bh▸lq)
  simpa using this
 have uB:((p::B)++ [q]).Nodup:=by rw [HR] at lq;exact (fe.mp lq).1
 have sP:((q::C)++ [p]).Nodup:=(fe.mp IF).1
 have sp:∀x∈p::B,ae (p::(B++ [q])) x=ae R x:=λx hx=>by
  have:=oU (a:=p::B) (b:=C) (z:=q) (HR▸lq) hx
  rw [HR,this];rfl
 have sq:∀x∈q::C,ae (q::(C++ [p])) x=ae R x:=λx hx=>by
  have h1:=oU (a:=q::C) (b:=B) (z:=p) IF hx;have h2:=fD (a:=p::B) (b:=q::C) (x:=x) (Bh▸lq) (fE _ hx);rw [←Bh] at h2;rw [←h2];have e:(q::C)++ [p]++B=(q::C)++(p::B):=by simp
  rw [e] at h1;exact h1.symm
 have D5:ae (p::(B++ [q])) q=p:=cT uB;have Po:ae (q::(C++ [p])) p=q:=cT sP
 have nP:∀x,x∈p::B→x∉q::C:=λx h1 h2=>by
  rw [Bh] at lq;exact (fe.mp lq).2.2 x h1 x h2 rfl
 have mR:∀x,x∈R↔x∈p::B∨x∈q::C:=λx=>by rw [Bh,cv]
 have m1:∀x,x∈p::(B++ [q])↔x∈p::B∨x=q:=λx=>by simp [or_assoc]
 have m2:∀x,x∈q::(C++ [p])↔x∈q::C∨x=p:=λx=>by simp [or_assoc]
 have pB:p∉B:=by
  have:=(fe.mp uB).1
  exact (hU.mp this).1
 have pq:p≠q:=λe=>nP p (cB ..) (e▸cB ..)
 have Ve:ae R p∈B:=by
  obtain ⟨b,B',rfl⟩:=List.exists_cons_of_ne_nil hB
  have:ae R p=b:=by
   rw [hR];exact bK (a:= []) (b:=B'++q::C) (by rw [hR] at lq;simpa using lq)
  rw [this];exact cB ..
 have Pp:ae R q∈C:=by
  obtain ⟨c,C',rfl⟩:=List.exists_cons_of_ne_nil hC
  have:ae R q=c:=by
   rw [hR,show p::(B++q::c::C')=(p::B)++q::c::C' by simp]
   exact bK (by rw [hR] at lq;simpa using lq)
  rw [this];exact cB ..
 have qp:¬bL R q p:=λz=>nP p (cB ..) (by rw [z.2];exact cI _ Pp)
 have pq':¬bL R p q:=λz=>nP q (by rw [z.2];exact cI _ Ve) (cB ..)
 have Qy:A (q,p):=(D.sym p q (D.dart _ ch) pq' qp).mp ch
 have Pr:∀x b,x∈B→b∈R→ae R b=x→(S (ae R x,x)↔S (x,b)):=λx b hx hb eb=>by
  have Ih:x∈R:=(mR x).mpr (.inl (cI _ hx));have F:=nk g D Ih hb eb;generalize (bT (row w x) (ae R x)).idxOf b=m at F;generalize (λk=>(bT (row w x) (ae R x)).getD k 0)=y at F;have mp:=F.at_.fan.pos;have yb:y m=b:=df D.nd F.at_.pm hb (by rw [F.at_.pv,eb])
  have:=F.seg g bd (i:=0) (m-1) (by have:=F.lt;omega) λk h1 h2=>⟨λz=>?_,λz=>?_⟩
  ·rw [F.at_.nx,show 0+(m-1)+1=m by omega,yb] at this
   exact this
  ·have e:=z.2
   rw [sp x (cI _ hx)] at e
   have:=F.at_.y0 (by omega) e
   omega
  ·have e:=z.2
   rcases (m1 _).mp z.1 with h|h
   ·rw [sp _ h] at e
    have:=F.at_.ym D (by omega) ((mR _).mpr (.inl h)) e
    omega
   ·rw [h,D5] at e
    exact pB (e▸hx)
 have Pt:∀x b,x∈C→b∈R→ae R b=x→(S (ae R x,x)↔S (x,b)):=λx b hx hb eb=>by
  have Ih:x∈R:=(mR x).mpr (.inr (cI _ hx))
  have xn:x∉p::(B++ [q]):=λz=>by
   rcases (m1 x).mp z with h|h
   ·exact nP x h (cI _ hx)
   ·subst h
    have:=(fe.mp sP).1
    exact (hU.mp this).1 hx
  have F:=nk g D Ih hb eb;generalize (bT (row w x) (ae R x)).idxOf b=m at F;generalize (λk=>(bT (row w x) (ae R x)).getD k 0)=y at F;have mp:=F.at_.fan.pos;have yb:y m=b:=df D.nd F.at_.pm hb (by rw [F.at_.pv,eb])
  have:=F.seg g bd (i:=0) (m-1) (by have:=F.lt;omega) λk h1 h2=>⟨λz=>xn z.1,λz=>xn (by rw [z.2];exact bq z.1)⟩
  rw [F.at_.nx,show 0+(m-1)+1=m by omega,yb] at this
  exact this
 have Si:p∈R:=(mR p).mpr (.inl (cB ..))
 have Qn:∀b,b∈R→ae R b=p→S (p,q)∧¬S (q,p)∧¬S (p,b):=λb hb eb=>by
  have F:=nk g D Si hb eb;generalize (bT (row w p) (ae R p)).idxOf b=m at F;generalize (λk=>(bT (row w p) (ae R p)).getD k 0)=y at F;have mp:=F.at_.fan.pos;have yb:y m=b:=df D.nd F.at_.pm hb (by rw [F.at_.pv,eb])
  obtain ⟨j,j1,j2,yj⟩:=F.between g D ch
  have jm:j≠m:=λe=>by
   rw [e,yb] at yj;rw [yj] at eb;exact nP p (cB ..) (by rw [←eb];exact cI _ Pp)
  have lt:=F.lt
  have bf:∀k,0<k→k<m→k≠j→¬bL (p::(B++ [q])) p (y k)∧¬bL (p::(B++ [q])) (y k) p:=λk h1 h2 h3=>⟨λz=>by
   have e:=z.2;rw [sp p (cB ..)] at e
   have:=F.at_.y0 (by omega) e
   omega,λz=>by
   have e:=z.2
   rcases (m1 _).mp z.1 with h|h
   ·rw [sp _ h] at e
    have:=F.at_.ym D (by omega) ((mR _).mpr (.inl h)) e
    omega
   ·rw [←yj] at h
    exact h3 (F.inj k j (by omega) (by omega) h)⟩
  have g1:=F.seg g bd (i:=0) (j-1) (by omega) λk h1 h2=>bf k h1 (by omega) (by omega)
  rw [F.at_.nx,show 0+(j-1)+1=j by omega,yj] at g1
  have s1:S (p,q):=g1.mp hs;have s2:¬S (q,p):=(bd.yes p q (D.dart _ ch) (.inr ⟨(m1 q).mpr (.inr rfl),D5.symm⟩)).mp s1;have g2:=F.seg g bd (i:=j) (m-j-1) (by omega) λk h1 h2=>bf k (by omega) (by omega) (by omega)
  rw [yj,show j+(m-j-1)+1=m by omega,yb] at g2
  exact ⟨s1,s2,λz=>s2 (g2.mpr z)⟩
 obtain ⟨bl,Xs,W6⟩:=p9 D.nd Si;obtain ⟨US,UT,_⟩:=Qn bl Xs W6;have lR:R.length=B.length+C.length+2:=by rw [hR];simp;omega
 have gB:∀i,1≤i→i≤B.length→R.getD i 0∈B:=λi h1 h2=>by
  obtain ⟨k,rfl⟩:∃k,i=k+1:=⟨i-1,by omega⟩
  rw [hR,kP,aS,eB (by omega),bA (by omega)]
  exact qA _
 have gC:∀i,B.length+2≤i→i<R.length→R.getD i 0∈C:=λi h1 h2=>by
  rw [show R=(p::B++ [q])++C by rw [HR],aS,fZ (by simp;omega),bA (by simp;omega)]
  exact qA _
 have g0:R.getD 0 0=p:=by rw [hR];rfl
 have gq:R.getD (B.length+1) 0=q:=by
  rw [hR,kP,aS,fZ (bx _)];simp
 have gR:∀i,i<R.length→R.getD i 0∈R:=λi h=>aD h
 have upB:∀i,i≤B.length→S (ae R (R.getD i 0),R.getD i 0):=by
  intro i
  induction i with
  |zero=>intro _;rw [g0];exact hs
  |succ i ih=>
   intro h;have e:=aC D.nd (i:=i) (by omega)
   have ih:=ih (by omega)
   rw [e] at ih;exact (Pr _ _ (gB (i+1) (by omega) h) (gR i (by omega)) e).mpr ih
 have W0:∀n i,i+n+1=R.length→B.length+1≤i→¬S (ae R (R.getD i 0),R.getD i 0):=by
  intro n
  induction n with
  |zero=>
   intro i h1 h2;have e:=aY D.nd (i:=i) (by omega)
   rw [g0] at e;rw [e];exact (Qn _ (gR i (by omega)) e).2.2
  |succ n ih=>
   intro i h1 h2;have e:=aC D.nd (i:=i) (by omega)
   have ih:=ih (i+1) (by omega) (by omega)
   rw [e];exact λz=>ih ((Pt _ _ (gC (i+1) (by omega) (by omega)) (gR i (by omega)) e).mpr z)
 have P4:∀x∈p::B,S (ae R x,x):=λx hx=>by
  obtain ⟨i,hi,rfl⟩:=fK.mp hx;have e:R.getD i 0=(p::B)[i]:=by rw [Bh,aS,eB hi,bA hi];rfl
  have:=upB i (by simp at hi;omega)
  rw [e] at this;exact this
 have P5:∀x∈q::C,¬S (ae R x,x):=λx hx=>by
  obtain ⟨i,hi,rfl⟩:=fK.mp hx
  have e:R.getD (B.length+1+i) 0=(q::C)[i]:=by
   rw [Bh,aS,fZ (by simp),show B.length+1+i-(p::B).length=i by simp,bA hi];rfl
  have h7:i<C.length+1:=by simpa using hi
  have:=W0 (R.length-(B.length+1+i)-1) (B.length+1+i) (by omega) (by omega)
  rw [e] at this;exact this
 have NV:∀d,aG w d→((A d∧S d)↔(A (aX w d)∧S (aX w d))):=λd hd=>and_congr (D.face d hd) (bd.face d hd);have NU:∀d,aG w d→((A d∧¬S d)↔(A (aX w d)∧¬S (aX w d))):=λd hd=>and_congr (D.face d hd) (not_congr (bd.face d hd));have lB:=vG.mpr hB;have lC:=vG.mpr hC
 have EZ:∀x∈q::C,¬S (x,ae R x)∧¬S (ae R x,x):=λx hx=>by
  have a:=P5 x hx;have Ih:=(mR x).mpr (.inr hx);have d:=(D.ring x Ih).1;refine ⟨λz=>a ?_,a⟩;refine (bd.no x (ae R x) (g.sym _ _ d) (λz=>?_) (λz=>?_)).mp z
  ·rcases (m1 x).mp z.1 with h|h
   ·exact nP x h hx
   ·have e:=z.2
    subst h;rw [D5] at e;exact nP p (cB ..) (by rw [←e];exact cI _ Pp)
  ·have e:=z.2
   rcases (m1 _).mp z.1 with h|h
   ·rw [sp _ h] at e
    have:ae R x∈q::C∨ae R x=p:=by
     rw [←sq x hx]
     have:=bq (l:=q::(C++ [p])) (x:=x) ((m2 x).mpr (.inl hx))
     exact (m2 _).mp this
    rcases this with h2|h2
    ·exact nP _ h h2
    ·rw [h2] at e
     exact nP x (by rw [e];exact cI _ Ve) hx
   ·rw [h,D5] at e
    exact nP p (cB ..) (e▸hx)
 refine ⟨⟨uB,by simp;omega,λd h=>D.dart d h.1,NV,λd h=>D.tri d h.1,λx hx=>?_,λx y hd n1 n2=>?_⟩,⟨sP,by simp;omega,λd h=>D.dart d h.1,NU,λd h=>D.tri d h.1,λx hx=>?_,λx y hd n1 n2=>?_⟩⟩
 ·rcases (m1 x).mp hx with h|rfl
  ·rw [sp x h]
   have r:=D.ring x ((mR x).mpr (.inl h));exact ⟨r.1,⟨r.2.1,P4 x h⟩,λz=>r.2.2 z.1⟩
  ·rw [D5]
   exact ⟨D.dart _ ch,⟨ch,US⟩,λz=>UT z.2⟩
 ·have sy:=bd.no x y hd n1 n2
  by_cases c1:bL R x y
  ·obtain ⟨hx,rfl⟩:=c1
   rcases (mR x).mp hx with h|h
   ·exact absurd ⟨(m1 x).mpr (.inl h),(sp x h).symm⟩ n1
   ·exact ⟨λz=>absurd z.2 (EZ x h).1,λz=>absurd z.2 (EZ x h).2⟩
  ·by_cases c2:bL R y x
   ·obtain ⟨hy,rfl⟩:=c2
    rcases (mR y).mp hy with h|h
    ·exact absurd ⟨(m1 y).mpr (.inl h),(sp y h).symm⟩ n2
    ·exact ⟨λz=>absurd z.2 (EZ y h).2,λz=>absurd z.2 (EZ y h).1⟩
   ·exact and_congr (D.sym x y hd c1 c2) sy
 ·rcases (m2 x).mp hx with h|rfl
  ·rw [sq x h]
   have r:=D.ring x ((mR x).mpr (.inr h));exact ⟨r.1,⟨r.2.1,P5 x h⟩,λz=>r.2.2 z.1⟩
  ·rw [Po]
   exact ⟨D.dart _ Qy,⟨Qy,UT⟩,λz=>z.2 US⟩
 ·have jN:∀x∈p::B,¬(A (x,ae R x)∧¬S (x,ae R x))∧¬(A (ae R x,x)∧¬S (ae R x,x)):=λx hx=>
   ⟨λz=>(D.ring x ((mR x).mpr (.inl hx))).2.2 z.1,λz=>z.2 (P4 x hx)⟩
  by_cases c1:bL R x y
  ·obtain ⟨hx,rfl⟩:=c1
   rcases (mR x).mp hx with h|h
   ·exact ⟨λz=>absurd z (jN x h).1,λz=>absurd z (jN x h).2⟩
   ·exact absurd ⟨(m2 x).mpr (.inl h),(sq x h).symm⟩ n1
  ·by_cases c2:bL R y x
   ·obtain ⟨hy,rfl⟩:=c2
    rcases (mR y).mp hy with h|h
    ·exact ⟨λz=>absurd z (jN y h).2,λz=>absurd z (jN y h).1⟩
    ·exact absurd ⟨(m2 y).mpr (.inl h),(sq y h).symm⟩ n2
   ·refine and_congr (D.sym x y hd c1 c2) (not_congr (bd.no x y hd (λz=>?_) (λz=>?_)))
    ·rcases (m1 x).mp z.1 with h|rfl
     ·exact c1 ⟨(mR x).mpr (.inl h),by rw [z.2,sp x h]⟩
     ·have e:=z.2
      rw [D5] at e;exact n2 ⟨(m2 y).mpr (.inr e),by rw [e,Po]⟩
    ·rcases (m1 y).mp z.1 with h|rfl
     ·exact c2 ⟨(mR y).mpr (.inl h),by rw [z.2,sp y h]⟩
     ·have e:=z.2
      rw [D5] at e;exact n1 ⟨(m2 x).mpr (.inr e),by rw [e,Po]⟩
end
def par{α:Type}(f:α→Bool):List α→Bool
 | []=>false
 |x::l=>(f x).xor (par f l)
theorem jO{α:Type}(f:α→Bool):∀l m:List α,par f (l++m)=(par f l).xor (par f m)
 | [],m=>by simp [par]
 |x::l,m=>by rw [List.cons_append,par,par,jO f l m,Bool.xor_assoc]
theorem pZ{α:Type}(f g:α→Bool):∀l:List α,par (λx=>(f x).xor (g x)) l=(par f l).xor (par g l)
 | []=>rfl
 |x::l=>by
  rw [par,par,par,pZ f g l];cases f x<;>cases g x<;>cases par f l<;>cases par g l<;>rfl
theorem gv{α:Type}{f:α→Bool}:∀{l:List α},(∀x∈l,f x=false)→par f l=false
 | [],_=>rfl
 |x::l,h=>by rw [par,h x (cB ..),gv λy hy=>h y (cI _ hy)];rfl
theorem kq{α:Type}{f g:α→Bool}:∀{l:List α},(∀x∈l,f x=g x)→par f l=par g l
 | [],_=>rfl
 |x::l,h=>by rw [par,par,h x (cB ..),kq λy hy=>h y (cI _ hy)]
theorem me{b:Bool}{a:Nat}:∀{l:List Nat},l.Nodup→a∈l→par (λx=>decide (x=a)&&b) l=b
 | [],_,h=>by cases h
 |x::l,nd,h=>by
  obtain ⟨n1,n2⟩:=hU.mp nd;rw [par]
  by_cases e:x=a
  ·subst e
   rw [gv λy hy=>by
    have:y≠x:=λz=>n1 (z▸hy)
    simp [this]]
   simp
  ·have:a∈l:=by
    rcases cn.mp h with z|z
    ·exact absurd z.symm e
    ·exact z
   rw [me n2 this];simp [e]
theorem BI{α:Type}(f:α→Bool):∀l:List α,par f l.reverse=par f l
 | []=>rfl
 |x::l=>by
  rw [vH,jO,BI f l,par,par,par];cases f x<;>cases par f l<;>rfl
def qC(w:W):Prop:=∀c:Nat→Nat→Bool,(∀x y,c x y=c y x)→(∀p,p<w.length→par (c p) (row w p)=false)→
 ∃S:Nat×Nat→Bool,(∀d,aG w d→S d=S (aX w d))∧∀x y,aG w (x,y)→(S (x,y)).xor (S (y,x))=c x y
open Classical in
theorem qC.ring{w:W}(B:qC w)(g:Good w){C:List Nat}(nd:C.Nodup)(len:3≤C.length)(tie:∀p∈C,ae C p∈row w p):∃S:Nat×Nat→Prop,Bd w C S:=by
 have sy:∀x y,decide (bL C x y∨bL C y x)=decide (bL C y x∨bL C x y):=λx y=>decide_eq_decide.mpr Or.comm
 have ev:∀p,p<w.length→par (λy=>decide (bL C p y∨bL C y p)) (row w p)=false:=λp _=>by
  by_cases hp:p∈C
  ·obtain ⟨b,hb,eb⟩:=p9 nd hp
   have ne:ae C p≠b:=by
    intro e;rw [←e] at eb;obtain ⟨i,hi,rfl⟩:=fK.mp hp;have ei:C[i]=C.getD i 0:=by rw [aS,bA hi];rfl
    rw [ei] at eb
    by_cases c:i+1<C.length
    ·rw [aC nd c] at eb
     by_cases c2:i+2<C.length
     ·rw [aC nd c2] at eb
      have:=getD_inj nd (by omega) (by omega) eb;omega
     ·rw [aY nd (by omega)] at eb
      have:=getD_inj nd (by omega) (by omega) eb;omega
    ·rw [aY nd (by omega),aC nd (by omega)] at eb
     have:=getD_inj nd (by omega) (by omega) eb;omega
   have e:par (λy=>decide (bL C p y∨bL C y p)) (row w p)=par (λy=>(decide (y=ae C p)&&true).xor (decide (y=b)&&true)) (row w p):=kq λy _=>by
    have h1:bL C p y↔y=ae C p:=⟨λz=>z.2,λz=>⟨hp,z⟩⟩;have h2:bL C y p↔y=b:=⟨λz=>df nd z.1 hb (by rw [eb];exact z.2.symm),λz=>by rw [z];exact ⟨hb,eb.symm⟩⟩
    have e3:decide (bL C p y∨bL C y p)=decide (y=ae C p∨y=b):=decide_eq_decide.mpr (or_congr h1 h2);rw [e3]
    by_cases c1:y=ae C p
    ·have c2:y≠b:=λz=>ne (c1▸z)
     simp [c1,ne]
    ·by_cases c2:y=b
     ·simp [c2,Ne.symm ne]
     ·simp [c1,c2]
   rw [e,pZ,me (g.nod p) (tie p hp),me (g.nod p) (by
    have:=g.sym _ _ (tie b hb)
    rw [eb] at this;have h:=tie b hb;rw [eb] at h;exact g.sym _ _ h)]
   rfl
  ·refine gv λy _=>decide_eq_false ?_
   rintro (z|z)
   ·exact hp z.1
   ·exact hp (by rw [z.2];exact bq z.1)
 obtain ⟨S,h1,h2⟩:=B (λx y=>decide (bL C x y∨bL C y x)) sy ev;refine ⟨λd=>S d=true,λd hd=>by rw [h1 d hd],λx y hd n1 n2=>?_,λx y hd a=>?_⟩
 ·have:=h2 x y hd
  rw [decide_eq_false (show ¬(bL C x y∨bL C y x) from λz=>z.elim n1 n2)] at this;cases e1:S (x,y)<;>cases e2:S (y,x)<;>simp [e1,e2] at this ⊢
 ·have:=h2 x y hd
  rw [decide_eq_true a] at this;cases e1:S (x,y)<;>cases e2:S (y,x)<;>simp [e1,e2] at this ⊢
structure bW (w:W) (R:List Nat):Prop where
 g:Good w
 nd:R.Nodup
 len:3≤R.length
 hd:∀x∈R,ae R x∈row w x∧(row w x).getD 0 0=ae R x
 ls:∀x∈R,(row w x).getD ((row w x).length-1) 0∈R∧ae R ((row w x).getD ((row w x).length-1) 0)=x
 tri:∀x y,aG w (x,y)→¬bL R x y→aX w (aX w (aX w (x,y)))=(x,y)∧¬bL R (aX w (x,y)).1 (aX w (x,y)).2
 bnd:qC w
theorem bW.D3{w:W}{a b:List Nat}(G:bW w (a++b)):bW w (b++a):=by
 have mem:∀p,p∈b++a↔p∈a++b:=λp=>fj.mem_iff;have s:∀p,p∈b++a→ae (b++a) p=ae (a++b) p:=λp h=>fD G.nd ((mem p).mp h)
 have ad:∀x y,bL (b++a) x y↔bL (a++b) x y:=λx y=>by
  constructor
  ·rintro ⟨h,e⟩;exact ⟨(mem x).mp h,by rw [e,s x h]⟩
  ·rintro ⟨h,e⟩;exact ⟨(mem x).mpr h,by rw [e,s x ((mem x).mpr h)]⟩
 refine ⟨G.g,fj.nodup_iff.mp G.nd,by have:=G.len;simp at this ⊢;omega,λx hx=>?_,λx hx=>?_,λx y hd n=>?_,G.bnd⟩
 ·rw [s x hx];exact G.hd x ((mem x).mp hx)
 ·have:=G.ls x ((mem x).mp hx)
  exact ⟨(mem _).mpr this.1,by rw [s _ ((mem _).mpr this.1)];exact this.2⟩
 ·have:=G.tri x y hd (λz=>n ((ad x y).mpr z))
  exact ⟨this.1,λz=>this.2 ((ad _ _).mp z)⟩
theorem bW.uq{w:W}{R:List Nat}(G:bW w R){x b:Nat}(hx:x∈R)(hb:b∈R)(e:ae R b=x):(row w x).getD ((row w x).length-1) 0=b∧(row w x).length≠0:=by
 have:=G.ls x hx
 refine ⟨df G.nd this.1 hb (by rw [this.2,e]),?_⟩
 have:=(G.hd x hx).1
 intro z;rw [Cm.mp z] at this;cases this
theorem bW.outer{w:W}{R:List Nat}(G:bW w R){x y:Nat}(h:bL R x y):aX w (x,y)=(y,ae R y):=by
 obtain ⟨hx,rfl⟩:=h;have hy:=bq hx;obtain ⟨e,ne⟩:=G.uq hy hx rfl;show (_,ae (row w (ae R x)) x)=_;have e2:=aY (G.g.nod (ae R x)) (i:=(row w (ae R x)).length-1) (by omega)
 rw [e] at e2;rw [e2,(G.hd _ hy).2]
theorem bW.HA{w:W}{R:List Nat}(G:bW w R):Disc w R λd=>aG w d∧¬bL R d.1 d.2:=by
 have two:∀x∈R,ae R (ae R x)≠x:=λx hx e=>by
  have len:=G.len;obtain ⟨i,hi,rfl⟩:=fK.mp hx;have ei:R[i]=R.getD i 0:=by rw [aS,bA hi];rfl
  rw [ei] at e
  by_cases c:i+1<R.length
  ·rw [aC G.nd c] at e
   by_cases c2:i+2<R.length
   ·rw [aC G.nd c2] at e
    have:=getD_inj G.nd (by omega) (by omega) e;omega
   ·rw [aY G.nd (by omega)] at e
    have:=getD_inj G.nd (by omega) (by omega) e;omega
  ·rw [aY G.nd (by omega),aC G.nd (by omega)] at e
   have:=getD_inj G.nd (by omega) (by omega) e;omega
 refine ⟨G.nd,G.len,λd h=>h.1,λd hd=>⟨λh=>⟨eV G.g hd,(G.tri d.1 d.2 hd h.2).2⟩,λh=>⟨hd,λz=>h.2 ?_⟩⟩,λd h=>(G.tri d.1 d.2 h.1 h.2).1,λp hp=>?_,λp q hd n1 n2=>?_⟩
 ·have e:aX w d=(d.2,ae R d.2):=G.outer z
  rw [e];exact ⟨by rw [z.2];exact bq z.1,rfl⟩
 ·have h1:=(G.hd p hp).1
  exact ⟨G.g.sym _ _ h1,⟨G.g.sym _ _ h1,λz=>two p hp z.2.symm⟩,λz=>z.2 ⟨hp,rfl⟩⟩
 ·exact ⟨λh=>⟨G.g.sym _ _ h.1,n2⟩,λh=>⟨G.g.sym _ _ h.1,n1⟩⟩
end Wb
set_option maxHeartbeats 1000000
namespace Wb
structure Step (w w':W) (R:List Nat) (f:Nat):Prop where
 l:w'.length=w.length+1
 f1:1≤f
 fn:f<R.length
 rv:row w' w.length=(R.take (f+1)).reverse
 r0:row w' (R.getD 0 0)=w.length::row w (R.getD 0 0)
 rk:∀k,1≤k→k≤f→row w' (R.getD k 0)=row w (R.getD k 0)++ [w.length]
 ro:∀x,x≠w.length→(∀k,k≤f→x≠R.getD k 0)→row w' x=row w x
def bR(R:List Nat)(f v:Nat):List Nat:=R.getD 0 0::v::R.drop f
theorem dS{R:List Nat}{f k:Nat}(h:f<R.length)(hk:k≤f):(R.take (f+1)).reverse.getD (f-k) 0=R.getD k 0:=by
 have l:(R.take (f+1)).length=f+1:=by rw [cm];omega
 rw [aS,List.getElem?_reverse (by omega),l,show f+1-1-(f-k)=k by omega,sA (by omega),←aS]
theorem sX{l:List Nat}{v x:Nat}(nd:(v::l).Nodup)(hx:x∈l)(hl:x≠l.getD (l.length-1) 0):ae (v::l) x=ae l x:=by
 obtain ⟨i,hi,rfl⟩:=fK.mp hx;have e:l[i]=l.getD i 0:=by rw [aS,bA hi];rfl
 have sO:i+1<l.length:=by
  apply Classical.byContradiction;intro c;exact hl (by rw [e,show l.length-1=i by omega])
 have h1:=aC (i:=i+1) nd (by simp;omega)
 have h2:=aC (i:=i) (hU.mp nd).2 sO;rw [kP,kP] at h1;rw [e,h1,h2]
theorem sZ{l:List Nat}{v x:Nat}(nd:(l++ [v]).Nodup)(hx:x∈l)(hl:x≠l.getD (l.length-1) 0):ae (l++ [v]) x=ae l x:=by
 obtain ⟨i,hi,rfl⟩:=fK.mp hx;have e:l[i]=l.getD i 0:=by rw [aS,bA hi];rfl
 have sO:i+1<l.length:=by
  apply Classical.byContradiction;intro c;exact hl (by rw [e,show l.length-1=i by omega])
 have g:∀j,j<l.length→(l++ [v]).getD j 0=l.getD j 0:=λj hj=>by rw [aS,eB hj,←aS]
 have h1:=aC (i:=i) nd (by simp;omega)
 have h2:=aC (i:=i) (fe.mp nd).1 sO;rw [g i hi,g (i+1) sO] at h1;rw [e,h1,h2]
section
variable {w w':W} {R:List Nat} {f:Nat}
theorem oS(G:bW w R)(T:Step w w' R f):Good w':=by
 have g:=G.g;have fn:=T.fn;have zR:∀k,k≤f→R.getD k 0∈R:=λk h=>aD (by omega)
 have zlt:∀k,k≤f→R.getD k 0<w.length:=λk h=>bC (G.hd _ (zR k h)).1
 have G9:∀x,x∈(R.take (f+1)).reverse↔∃k,k≤f∧x=R.getD k 0:=λx=>by
  rw [oe]
  constructor
  ·intro h
   obtain ⟨i,hi,rfl⟩:=fK.mp h;rw [cm] at hi;exact ⟨i,by omega,by rw [yF,aS,bA (by omega)];rfl⟩
  ·rintro ⟨k,hk,rfl⟩
   refine fK.mpr ⟨k,by rw [cm];omega,?_⟩
   rw [yF,aS,bA (by omega)];rfl
 have mem:∀x,x≠w.length→∀y,y∈row w' x↔y∈row w x∨(y=w.length∧∃k,k≤f∧x=R.getD k 0):=λx hx y=>by
  by_cases c:∃k,k≤f∧x=R.getD k 0
  ·obtain ⟨k,hk,rfl⟩:=c
   by_cases k0:k=0
   ·subst k0
    rw [T.r0,cn];exact ⟨λh=>h.elim (λz=> .inr ⟨z,0,hk,rfl⟩) .inl,λh=>h.elim .inr (λz=> .inl z.1)⟩
   ·rw [T.rk k (by omega) hk,cv,fL]
    exact ⟨λh=>h.elim .inl (λz=> .inr ⟨z,k,hk,rfl⟩),λh=>h.elim .inl (λz=> .inr z.1)⟩
  ·rw [T.ro x hx (λk hk z=>c ⟨k,hk,z⟩)]
   exact ⟨.inl,λh=>h.elim id (λz=>absurd z.2 c)⟩
 have EV:∀y,y∈row w' w.length↔∃k,k≤f∧y=R.getD k 0:=λy=>by rw [T.rv];exact G9 y
 have JU:∀x,w.length∉row w x:=λx h=>gP _ (g.rng _ _ h)
 have noR:∀x,x≠w.length→(row w' x).Nodup:=λx hx=>by
  by_cases c:∃k,k≤f∧x=R.getD k 0
  ·obtain ⟨k,hk,rfl⟩:=c
   by_cases k0:k=0
   ·subst k0
    rw [T.r0];exact hU.mpr ⟨JU _,g.nod _⟩
   ·rw [T.rk k (by omega) hk]
    exact fe.mpr ⟨g.nod _,by simp,λa ha b hb e=>by
     have:b=w.length:=fL.mp hb
     rw [e,this] at ha;exact JU _ ha⟩
  ·rw [T.ro x hx (λk hk z=>c ⟨k,hk,z⟩)];exact g.nod x
 have up:∀x y,y∈row w x→y∈row w' x:=λx y h=>(mem x (by have:=bC h;omega) y).mpr (.inl h)
 have con:∀x,x<w.length→Reach w' 0 x:=λx hx=>(g.con x hx).mono up;refine ⟨λx y h=>?_,λx h=>?_,λx=>?_,λx y h=>?_,λx hx=>?_⟩
 ·rw [T.l]
  by_cases c:x=w.length
  ·subst c
   obtain ⟨k,hk,rfl⟩:=(EV y).mp h
   have:=zlt k hk;omega
  ·rcases (mem x c y).mp h with h| ⟨h,_⟩
   ·have:=g.rng _ _ h;omega
   ·omega
 ·by_cases c:x=w.length
  ·subst c
   obtain ⟨k,hk,e⟩:=(EV _).mp h
   have:=zlt k hk;omega
  ·rcases (mem x c x).mp h with h| ⟨h,_⟩
   ·exact g.irr x h
   ·exact c h
 ·by_cases c:x=w.length
  ·subst c
   rw [T.rv];exact (List.reverse_perm _).nodup_iff.mpr (G.nd.sublist (List.take_sublist _ _))
  ·exact noR x c
 ·by_cases c:x=w.length
  ·subst c
   obtain ⟨k,hk,rfl⟩:=(EV y).mp h;exact (mem _ (by have:=zlt k hk;omega) _).mpr (.inr ⟨rfl,k,hk,rfl⟩)
  ·rcases (mem x c y).mp h with h| ⟨rfl,k,hk,rfl⟩
   ·exact up _ _ (g.sym _ _ h)
   ·exact (EV _).mpr ⟨k,hk,rfl⟩
 ·rw [T.l] at hx
  by_cases c:x=w.length
  ·subst c
   exact .step (con _ (zlt 0 (cw _))) ((mem _ (by have:=zlt 0 (cw _);omega) _).mpr (.inr ⟨rfl,0,cw _,rfl⟩))
  ·exact con x (by omega)
structure SF (w w':W) (R:List Nat) (f:Nat):Prop where
 z:∀k,k<R.length→R.getD k 0∈R
 zlt:∀k,k<R.length→R.getD k 0<w.length
 inj:∀i j,i<R.length→j<R.length→R.getD i 0=R.getD j 0→i=j
 dv:∀y,aG w' (w.length,y)↔∃k,k≤f∧y=R.getD k 0
 dx:∀x,x≠w.length→∀y,aG w' (x,y)↔aG w (x,y)∨(y=w.length∧∃k,k≤f∧x=R.getD k 0)
 n1:∀x y,aG w (x,y)→¬bL R x y→aX w' (x,y)=aX w (x,y)
 n1o:∀i,f≤i→i+1<R.length→aX w' (R.getD i 0,R.getD (i+1) 0)=(R.getD (i+1) 0,ae R (R.getD (i+1) 0))
 n1e:aX w' (R.getD (R.length-1) 0,R.getD 0 0)=(R.getD 0 0,w.length)
 n2:∀k,k<f→aX w' (R.getD k 0,R.getD (k+1) 0)=(R.getD (k+1) 0,w.length)
 n3:∀k,k<f→aX w' (R.getD (k+1) 0,w.length)=(w.length,R.getD k 0)
 n3e:aX w' (R.getD 0 0,w.length)=(w.length,R.getD f 0)
 n4:∀k,k≤f→aX w' (w.length,R.getD k 0)=(R.getD k 0,ae R (R.getD k 0))
theorem sg(G:bW w R)(T:Step w w' R f):SF w w' R f:=by
 have g:=G.g;have g':=oS G T;have fn:=T.fn;have f1:=T.f1;have zR:∀k,k<R.length→R.getD k 0∈R:=λk h=>aD h;have zlt:∀k,k<R.length→R.getD k 0<w.length:=λk h=>bC (G.hd _ (zR k h)).1;have inj:∀i j,i<R.length→j<R.length→R.getD i 0=R.getD j 0→i=j:=λi j hi hj e=>getD_inj G.nd hi hj e;have JU:∀x,w.length∉row w x:=λx h=>gP _ (g.rng _ _ h);have sx:∀i,i+1<R.length→ae R (R.getD i 0)=R.getD (i+1) 0:=λi h=>aC G.nd h;have se:ae R (R.getD (R.length-1) 0)=R.getD 0 0:=aY G.nd (by omega)
 have G9:∀x,x∈(R.take (f+1)).reverse↔∃k,k≤f∧x=R.getD k 0:=λx=>by
  rw [oe]
  constructor
  ·intro h
   obtain ⟨i,hi,rfl⟩:=fK.mp h;rw [cm] at hi;exact ⟨i,by omega,by rw [yF,aS,bA (by omega)];rfl⟩
  ·rintro ⟨k,hk,rfl⟩
   refine fK.mpr ⟨k,by rw [cm];omega,?_⟩
   rw [yF,aS,bA (by omega)];rfl
 have dx:∀x,x≠w.length→∀y,aG w' (x,y)↔aG w (x,y)∨(y=w.length∧∃k,k≤f∧x=R.getD k 0):=λx hx y=>by
  show y∈row w' x↔y∈row w x∨_
  by_cases c:∃k,k≤f∧x=R.getD k 0
  ·obtain ⟨k,hk,rfl⟩:=c
   by_cases k0:k=0
   ·subst k0
    rw [T.r0,cn];exact ⟨λh=>h.elim (λz=> .inr ⟨z,0,hk,rfl⟩) .inl,λh=>h.elim .inr (λz=> .inl z.1)⟩
   ·rw [T.rk k (by omega) hk,cv,fL]
    exact ⟨λh=>h.elim .inl (λz=> .inr ⟨z,k,hk,rfl⟩),λh=>h.elim .inl (λz=> .inr z.1)⟩
  ·rw [T.ro x hx (λk hk z=>c ⟨k,hk,z⟩)]
   exact ⟨.inl,λh=>h.elim id (λz=>absurd z.2 c)⟩
 have MK:∀k,k<R.length→(row w (R.getD k 0)).length≠0:=λk hk z=>by
  have:=(G.hd _ (zR k hk)).1
  rw [Cm.mp z] at this;cases this
 have s0:∀x,x∈row w (R.getD 0 0)→x≠(row w (R.getD 0 0)).getD ((row w (R.getD 0 0)).length-1) 0→ae (row w' (R.getD 0 0)) x=ae (row w (R.getD 0 0)) x:=λx h1 h2=>by
  rw [T.r0];exact sX (by rw [←T.r0];exact g'.nod _) h1 h2
 have sk:∀k,1≤k→k≤f→∀x,x∈row w (R.getD k 0)→x≠(row w (R.getD k 0)).getD ((row w (R.getD k 0)).length-1) 0→ae (row w' (R.getD k 0)) x=ae (row w (R.getD k 0)) x:=λk h1 h2 x h3 h4=>by
  rw [T.rk k h1 h2];exact sZ (by rw [←T.rk k h1 h2];exact g'.nod _) h3 h4
 have lastOf:∀y∈R,∀x,x=(row w y).getD ((row w y).length-1) 0→bL R x y:=λy hy x e=>by
  have:=G.ls y hy
  rw [←e] at this;exact ⟨this.1,this.2.symm⟩
 have LD:∀k,1≤k→k≤f→ae (row w' (R.getD k 0)) ((row w (R.getD k 0)).getD ((row w (R.getD k 0)).length-1) 0)=w.length:=λk h1 h2=>by
  have nd:=g'.nod (R.getD k 0);have ln:=MK k (by omega)
  rw [T.rk k h1 h2] at nd ⊢;have h:=aC (i:=(row w (R.getD k 0)).length-1) nd (by rw [b9,vC];omega)
  have e1:(row w (R.getD k 0)++ [w.length]).getD ((row w (R.getD k 0)).length-1) 0=(row w (R.getD k 0)).getD ((row w (R.getD k 0)).length-1) 0:=by
   rw [aS,eB (by omega),←aS]
  have e2:(row w (R.getD k 0)++ [w.length]).getD ((row w (R.getD k 0)).length-1+1) 0=w.length:=by
   rw [aS,fZ (by omega),show (row w (R.getD k 0)).length-1+1-(row w (R.getD k 0)).length=0 by omega];rfl
  rw [e1,e2] at h;exact h
 refine ⟨zR,zlt,inj,λy=>by show y∈row w' w.length↔_;rw [T.rv];exact G9 y,dx,λx y hd n=>?_,λi h1 h2=>?_,?_,λk hk=>?_,λk hk=>?_,?_,λk hk=>?_⟩
 ·
  show (y,ae (row w' y) x)=(y,ae (row w y) x);have xy:x∈row w y:=g.sym _ _ hd
  by_cases c:∃k,k≤f∧y=R.getD k 0
  ·obtain ⟨k,hk,rfl⟩:=c
   have nl:x≠(row w (R.getD k 0)).getD ((row w (R.getD k 0)).length-1) 0:=λe=>n (lastOf _ (zR k (by omega)) x e)
   by_cases k0:k=0
   ·subst k0;rw [s0 x xy nl]
   ·rw [sk k (by omega) hk x xy nl]
  ·rw [T.ro y (by have:=g.rng _ _ hd;omega) (λk hk z=>c ⟨k,hk,z⟩)]
 ·
  have hm:=zR (i+1) h2;obtain ⟨e,ne⟩:=G.uq hm (zR i (by omega)) (sx i h2)
  show (_,ae (row w' (R.getD (i+1) 0)) (R.getD i 0))=_;rw [T.ro _ (by have:=zlt (i+1) h2;omega) (λk hk z=>by have:=inj _ _ h2 (by omega) z;omega)]
  have e2:=aY (g.nod (R.getD (i+1) 0)) (i:=(row w (R.getD (i+1) 0)).length-1) (by omega)
  rw [e] at e2;rw [e2,(G.hd _ hm).2]
 ·
  have hm:=zR 0 (by omega)
  obtain ⟨e,ne⟩:=G.uq hm (zR (R.length-1) (by omega)) se
  show (_,ae (row w' (R.getD 0 0)) (R.getD (R.length-1) 0))=_;rw [T.r0];have nd:=g'.nod (R.getD 0 0);rw [T.r0] at nd;have e2:=aY nd (i:=(row w (R.getD 0 0)).length) (by simp)
  have e3:(w.length::row w (R.getD 0 0)).getD (row w (R.getD 0 0)).length 0=R.getD (R.length-1) 0:=by
   rw [←e,show (row w (R.getD 0 0)).length=(row w (R.getD 0 0)).length-1+1 by omega,kP];simp
  rw [e3] at e2;rw [e2];rfl
 ·
  have hm:=zR (k+1) (by omega)
  obtain ⟨e,ne⟩:=G.uq hm (zR k (by omega)) (sx k (by omega))
  show (_,ae (row w' (R.getD (k+1) 0)) (R.getD k 0))=_
  have:=LD (k+1) (by omega) (by omega)
  rw [e] at this;rw [this]
 ·
  show (_,ae (row w' w.length) (R.getD (k+1) 0))=_;have nd:=g'.nod w.length;rw [T.rv] at nd ⊢;have l:(R.take (f+1)).reverse.length=f+1:=by rw [qx,cm];omega
  have h:=aC (i:=f-(k+1)) nd (by omega)
  rw [dS fn (by omega),show f-(k+1)+1=f-k by omega,dS fn (by omega)] at h
  rw [h]
 ·
  show (_,ae (row w' w.length) (R.getD 0 0))=_;have nd:=g'.nod w.length;rw [T.rv] at nd ⊢;have l:(R.take (f+1)).reverse.length=f+1:=by rw [qx,cm];omega
  have h:=aY nd (i:=f) (by omega)
  have e0:=dS fn (cw f);have e1:=dS fn (bx f);rw [Nat.sub_zero] at e0;rw [jj] at e1;rw [e0,e1] at h;rw [h]
 ·
  have hm:=zR k (by omega)
  show (_,ae (row w' (R.getD k 0)) w.length)=_;have nd:=g'.nod (R.getD k 0);have ln:=MK k (by omega)
  by_cases k0:k=0
  ·subst k0
   rw [T.r0] at nd ⊢;have h:=aC (i:=0) nd (by rw [dh];omega)
   rw [List.getD_cons_zero,kP,(G.hd _ hm).2] at h;rw [h]
  ·rw [T.rk k (by omega) hk] at nd ⊢
   have h:=aY nd (i:=(row w (R.getD k 0)).length) (by simp)
   have e1:(row w (R.getD k 0)++ [w.length]).getD (row w (R.getD k 0)).length 0=w.length:=by
    rw [aS,fZ (bx _),jj];rfl
   have e2:(row w (R.getD k 0)++ [w.length]).getD 0 0=(row w (R.getD k 0)).getD 0 0:=by
    rw [aS,eB (by omega),←aS]
   rw [e1,e2,(G.hd _ hm).2] at h;rw [h]
end
end Wb
set_option maxHeartbeats 2000000
namespace Wb
section
variable {w w':W} {R:List Nat} {f:Nat}
structure GX (w:W) (R:List Nat) (f:Nat):Prop where
 nd:(bR R f w.length).Nodup
 len:(bR R f w.length).length+f=R.length+2
 mem:∀x,x∈bR R f w.length↔x=R.getD 0 0∨x=w.length∨∃i,f≤i∧i<R.length∧x=R.getD i 0
 s0:ae (bR R f w.length) (R.getD 0 0)=w.length
 sv:ae (bR R f w.length) w.length=R.getD f 0
 si:∀i,f≤i→i<R.length→ae (bR R f w.length) (R.getD i 0)=ae R (R.getD i 0)
theorem D2(G:bW w R)(T:Step w w' R f):GX w R f:=by
 have fn:=T.fn;have f1:=T.f1;have zR:∀k,k<R.length→R.getD k 0∈R:=λk h=>aD h;have zlt:∀k,k<R.length→R.getD k 0<w.length:=λk h=>bC (G.hd _ (zR k h)).1;have inj:∀i j,i<R.length→j<R.length→R.getD i 0=R.getD j 0→i=j:=λi j hi hj e=>getD_inj G.nd hi hj e
 have dm:∀x,x∈R.drop f↔∃i,f≤i∧i<R.length∧x=R.getD i 0:=λx=>by
  constructor
  ·intro h
   obtain ⟨i,hi,rfl⟩:=fK.mp h;rw [fw] at hi;exact ⟨f+i,by omega,by omega,by rw [List.getElem_drop,aS,bA (by omega)];rfl⟩
  ·rintro ⟨i,h1,h2,rfl⟩
   refine fK.mpr ⟨i-f,by rw [fw];omega,?_⟩
   rw [List.getElem_drop,aS,bA h2];simp only [show f+(i-f)=i by omega];rfl
 have nd:(bR R f w.length).Nodup:=by
  unfold bR;refine hU.mpr ⟨λh=>?_,hU.mpr ⟨λh=>?_,G.nd.sublist (List.drop_sublist _ _)⟩⟩
  ·rcases cn.mp h with h|h
   ·have:=zlt 0 (by omega);omega
   ·obtain ⟨i,h1,h2,e⟩:=(dm _).mp h
    have:=inj 0 i (by omega) h2 e;omega
  ·obtain ⟨i,h1,h2,e⟩:=(dm _).mp h
   have:=zlt i h2;omega
 have len:(bR R f w.length).length=R.length-f+2:=by unfold bR;simp
 have get:∀i,f≤i→i<R.length→(bR R f w.length).getD (i-f+2) 0=R.getD i 0:=λi h1 h2=>by
  unfold bR;rw [kP,kP,aS,qy,show f+(i-f)=i by omega,←aS]
 have g0:(bR R f w.length).getD 0 0=R.getD 0 0:=rfl;have g1:(bR R f w.length).getD 1 0=w.length:=rfl;refine ⟨nd,by omega,λx=>?_,?_,?_,λi h1 h2=>?_⟩
 ·unfold bR
  rw [cn,cn,dm]
 ·have:=aC nd (i:=0) (by omega)
  rw [g0] at this;exact this
 ·have:=aC nd (i:=1) (by omega)
  have e:=get f (bx _) fn;rw [jj] at e;rw [g1] at this;rw [this];exact e
 ·by_cases c:i+1<R.length
  ·have:=aC nd (i:=i-f+2) (by omega)
   have e:=get (i+1) (by omega) c
   rw [get i h1 h2,show i-f+2+1=i+1-f+2 by omega,e] at this
   rw [this,aC G.nd c]
  ·have:=aY nd (i:=i-f+2) (by omega)
   rw [get i h1 h2,g0] at this;rw [this,aY G.nd (by omega)]
theorem GX.bL(F:GX w R f){x y:Nat}(h:bL (bR R f w.length) x y):(x=R.getD 0 0∧y=w.length)∨(x=w.length∧y=R.getD f 0)∨∃i,f≤i∧i<R.length∧x=R.getD i 0∧y=ae R (R.getD i 0):=by
 obtain ⟨hx,e⟩:=h
 rcases (F.mem x).mp hx with rfl|rfl| ⟨i,h1,h2,rfl⟩
 ·exact .inl ⟨rfl,by rw [e,F.s0]⟩
 ·exact .inr (.inl ⟨rfl,by rw [e,F.sv]⟩)
 ·exact .inr (.inr ⟨i,h1,h2,rfl,by rw [e,F.si i h1 h2]⟩)
open Classical in
theorem GD(G:bW w R)(T:Step w w' R f):qC w':=by
 have g:=G.g;have g':=oS G T;have fn:=T.fn;have f1:=T.f1;have K:=sg G T;have len:=G.len;have zlt:=K.zlt;have nJ:∀k,k<R.length→R.getD k 0≠w.length:=λk h=>by have:=zlt k h;omega
 have sx:∀i,i+1<R.length→ae R (R.getD i 0)=R.getD (i+1) 0:=λi h=>aC G.nd h;have se:ae R (R.getD (R.length-1) 0)=R.getD 0 0:=aY G.nd (by omega)
 intro c sy ev
 let s:Nat→Bool:=λk=>par (λi=>c w.length (R.getD i 0)) (List.range (k+1))
 let sp:Nat→Bool:=λk=>match k with|0=>false|k+1=>s k
 have ss:∀k,s (k+1)=(s k).xor (c w.length (R.getD (k+1) 0)):=λk=>by
  show par _ (List.range (k+1+1))=_;rw [List.range_succ,jO];show (s k).xor ((c w.length (R.getD (k+1) 0)).xor false)=_;rw [vy]
 have s0:s 0=c w.length (R.getD 0 0):=by
  show (c w.length (R.getD 0 0)).xor false=_;rw [vy]
 have J6:R.take (f+1)=(List.range (f+1)).map λi=>R.getD i 0:=by
  refine List.ext_getElem (by rw [cm,aK,ji];omega) λi h1 h2=>?_
  rw [cm] at h1;rw [yF,List.getElem_map,List.getElem_range,aS,bA (by omega)];rfl
 have pY:∀(h:Nat→Bool)(φ:Nat→Nat)(l:List Nat),par h (l.map φ)=par (λi=>h (φ i)) l:=λh φ l=>by
  induction l with
  |nil=>rfl
  |cons a l ih=>rw [iV,par,par,ih]
 have sf:s f=false:=by
  have:=ev w.length (by rw [T.l];omega)
  rw [T.rv,BI,J6,pY] at this;exact this
 let de:Nat→Nat→Bool:=λx y=>decide (∃k,k<f∧x=R.getD k 0∧y=R.getD (k+1) 0∧s k=true)
 have NJ:∀k,k<f→∀y,de (R.getD k 0) y=(decide (y=R.getD (k+1) 0)&&s k):=λk hk y=>by
  show decide _=_
  by_cases c1:y=R.getD (k+1) 0
  ·cases hs:s k with
   |true=>rw [decide_eq_true ⟨k,hk,rfl,c1,hs⟩,decide_eq_true c1];rfl
   |false=>
    rw [Bool.and_false];refine decide_eq_false ?_;rintro ⟨j,hj,e,_,h⟩
    have:=K.inj k j (by omega) (by omega) e
    subst this;rw [hs] at h;cases h
  ·rw [decide_eq_false c1,vw]
   refine decide_eq_false ?_;rintro ⟨j,hj,e,e2,h⟩
   have:=K.inj k j (by omega) (by omega) e
   subst this;exact c1 e2
 have Rx:∀k,k<f→∀x,de x (R.getD (k+1) 0)=(decide (x=R.getD k 0)&&s k):=λk hk x=>by
  show decide _=_
  by_cases c1:x=R.getD k 0
  ·cases hs:s k with
   |true=>rw [decide_eq_true ⟨k,hk,c1,rfl,hs⟩,decide_eq_true c1];rfl
   |false=>
    rw [Bool.and_false];refine decide_eq_false ?_;rintro ⟨j,hj,_,e,h⟩
    have:=K.inj (k+1) (j+1) (by omega) (by omega) e
    have:k=j:=by omega
    subst this;rw [hs] at h;cases h
  ·rw [decide_eq_false c1,vw]
   refine decide_eq_false ?_;rintro ⟨j,hj,e2,e,h⟩
   have:=K.inj (k+1) (j+1) (by omega) (by omega) e
   have:k=j:=by omega
   subst this;exact c1 e2
 have Rv:∀x y,(∀k,k<f→x≠R.getD k 0)→de x y=false:=λx y h=>decide_eq_false λ⟨k,hk,e,_⟩=>h k hk e;have Rw:∀x y,(∀k,k<f→y≠R.getD (k+1) 0)→de x y=false:=λx y h=>decide_eq_false λ⟨k,hk,_,e,_⟩=>h k hk e
 have tie:∀k,k+1<R.length→R.getD (k+1) 0∈row w (R.getD k 0):=λk hk=>by
  have:=(G.hd _ (K.z k (by omega))).1
  rw [sx k hk] at this;exact this
 obtain ⟨S,SF,SC⟩:=G.bnd (λx y=>((c x y).xor (de x y)).xor (de y x)) (λx y=>by
   show ((c x y).xor (de x y)).xor (de y x)=((c y x).xor (de y x)).xor (de x y);rw [sy x y];cases c y x<;>cases de x y<;>cases de y x<;>rfl) (λp hp=>by
   have e:par (λy=>((c p y).xor (de p y)).xor (de y p)) (row w p)=((par (c p) (row w p)).xor (par (de p) (row w p))).xor (par (λy=>de y p) (row w p)):=by
    rw [pZ (λy=>(c p y).xor (de p y)) (λy=>de y p),pZ (c p) (de p)]
   rw [e];have Bb:=ev p (by rw [T.l];omega)
   by_cases hk:∃k,k≤f∧p=R.getD k 0
   ·obtain ⟨k,hk,rfl⟩:=hk
    have hc:par (c (R.getD k 0)) (row w (R.getD k 0))=c w.length (R.getD k 0):=by
     by_cases k0:k=0
     ·subst k0
      rw [T.r0,par] at Bb;rw [sy w.length];cases h1:c (R.getD 0 0) w.length<;>cases h2:par (c (R.getD 0 0)) (row w (R.getD 0 0))<;>rw [h1,h2] at Bb<;>simp at Bb ⊢
     ·rw [T.rk k (by omega) hk,jO,par,par,vy] at Bb
      rw [sy w.length];cases h1:c (R.getD k 0) w.length<;>cases h2:par (c (R.getD k 0)) (row w (R.getD k 0))<;>rw [h1,h2] at Bb<;>simp at Bb ⊢
    have h1:par (de (R.getD k 0)) (row w (R.getD k 0))=if k<f then s k else false:=by
     by_cases kf:k<f
     ·rw [if_pos kf,kq (λy _=>NJ k kf y)]
      exact me (g.nod _) (tie k (by omega))
     ·rw [if_neg kf]
      exact gv λy _=>Rv _ _ λj hj e=>by have:=K.inj k j (by omega) (by omega) e;omega
    have h2:par (λy=>de y (R.getD k 0)) (row w (R.getD k 0))=sp k:=by
     cases k with
     |zero=>exact gv λy _=>Rw _ _ λj hj e=>by have:=K.inj 0 (j+1) (by omega) (by omega) e;omega
     |succ k=>
      rw [kq (λy _=>Rx k (by omega) y)]
      exact me (g.nod _) (g.sym _ _ (tie k (by omega)))
    rw [hc,h1,h2];cases k with
    |zero=>
     rw [if_pos (by omega),s0]
     show ((c w.length (R.getD 0 0)).xor _).xor false=false;rw [Bool.xor_self];rfl
    |succ k=>
     show (_:Bool).xor (s k)=false
     by_cases kf:k+1<f
     ·rw [if_pos kf,ss k]
      cases s k<;>cases c w.length (R.getD (k+1) 0)<;>rfl
     ·rw [if_neg kf]
      have:k+1=f:=by omega
      have h:=ss k;rw [this,sf] at h;rw [this];cases h1:s k<;>cases h2:c w.length (R.getD f 0)<;>rw [h1,h2] at h<;>simp at h ⊢
   ·have n1:∀k,k≤f→p≠R.getD k 0:=λk h z=>hk ⟨k,h,z⟩
    rw [T.ro p (by omega) n1] at Bb
    rw [Bb,gv λy _=>Rv p y λk h=>n1 k (by omega),gv λy _=>Rw y p λk h=>n1 (k+1) (by omega)]
    rfl)
 have xb:∀i,i<R.length→S (R.getD i 0,ae R (R.getD i 0))=S (R.getD 0 0,ae R (R.getD 0 0)):=by
  intro i
  induction i with
  |zero=>intro _;rfl
  |succ i ih=>
   intro h;rw [←ih (by omega)]
   have d:aG w (R.getD i 0,ae R (R.getD i 0)):=(G.hd _ (K.z i (by omega))).1
   rw [SF _ d,G.outer ⟨K.z i (by omega),rfl⟩,sx i h]
 generalize ho:S (R.getD 0 0,ae R (R.getD 0 0))=o at xb
 let ix:Nat→Nat:=λx=>R.idxOf x
 have OQ:∀k,k<R.length→ix (R.getD k 0)=k:=λk hk=>by
  show R.idxOf _=k;rw [aS,bA hk];exact G.nd.idxOf_getElem k hk
 let U:Nat×Nat→Bool:=λd=>if d.1=w.length then o.xor (s (ix d.2)) else if d.2=w.length then o.xor (sp (ix d.1)) else if ∃k,k<f∧d.1=R.getD k 0∧d.2=R.getD (k+1) 0 then o.xor (s (ix d.1)) else S d
 have Uv:∀k,k≤f→U (w.length,R.getD k 0)=o.xor (s k):=λk hk=>by
  show (if w.length=w.length then o.xor (s (ix (R.getD k 0))) else _)=_;rw [if_pos rfl,OQ k (by omega)]
 have Ux:∀k,k≤f→U (R.getD k 0,w.length)=o.xor (sp k):=λk hk=>by
  show (if R.getD k 0=w.length then _ else if w.length=w.length then o.xor (sp (ix (R.getD k 0))) else _)=_;rw [if_neg (nJ k (by omega)),if_pos rfl,OQ k (by omega)]
 have Ua:∀k,k<f→U (R.getD k 0,R.getD (k+1) 0)=o.xor (s k):=λk hk=>by
  show (if R.getD k 0=w.length then _ else if R.getD (k+1) 0=w.length then _ else if _ then o.xor (s (ix (R.getD k 0))) else _)=_;rw [if_neg (nJ k (by omega)),if_neg (nJ (k+1) (by omega)),if_pos ⟨k,hk,rfl,rfl⟩,OQ k (by omega)]
 have Uo:∀x y,x≠w.length→y≠w.length→(∀k,k<f→x=R.getD k 0→y≠R.getD (k+1) 0)→U (x,y)=S (x,y):=λx y h1 h2 h3=>by
  show (if x=w.length then _ else if y=w.length then _ else if _ then _ else S (x,y))=_;rw [if_neg h1,if_neg h2,if_neg (λ⟨k,hk,e1,e2⟩=>h3 k hk e1 e2)]
 have Uh:∀b:Bool,b.xor false=b:=vy;refine ⟨U,λd hd=>?_,λx y hd=>?_⟩
 ·obtain ⟨x,y⟩:=d
  by_cases xv:x=w.length
  ·subst xv
   obtain ⟨k,hk,rfl⟩:=(K.dv y).mp hd;rw [K.n4 k hk,Uv k hk]
   by_cases kf:k<f
   ·rw [sx k (by omega),Ua k kf]
   ·have:k=f:=by omega
    subst this
    rw [Uo _ _ (nJ k (by omega)) (by
     have:=bq (K.z k (by omega))
     have:=bC (G.hd _ this).1
     omega) (λj hj e=>by have:=K.inj k j (by omega) (by omega) e;omega),xb k (by omega),sf,Uh]
  ·by_cases yv:y=w.length
   ·subst yv
    rcases (K.dx x xv _).mp hd with h| ⟨_,k,hk,rfl⟩
    ·exact absurd (g.rng _ _ h) (gP _)
    ·cases k with
     |zero=>
      rw [K.n3e,Ux 0 hk,Uv f (bx _),sf]
     |succ k=>
      rw [K.n3 k (by omega),Ux (k+1) hk,Uv k (by omega)]
   ·have d0:aG w (x,y):=by
     rcases (K.dx x xv y).mp hd with h| ⟨h,_⟩
     ·exact h
     ·exact absurd h yv
    by_cases ad:bL R x y
    ·obtain ⟨hx,rfl⟩:=ad
     obtain ⟨i,hi,rfl⟩:∃i,i<R.length∧x=R.getD i 0:=by
      obtain ⟨i,hi,e⟩:=fK.mp hx;exact ⟨i,hi,by rw [aS,bA hi];exact e.symm⟩
     by_cases c1:i<f
     ·rw [sx i (by omega),K.n2 i c1,Ua i c1,Ux (i+1) (by omega)]
     ·have u1:U (R.getD i 0,ae R (R.getD i 0))=o:=by
       rw [Uo _ _ xv yv (λj hj e=>by have:=K.inj i j (by omega) (by omega) e;omega),xb i hi]
      rw [u1]
      by_cases c2:i+1<R.length
      ·rw [sx i c2,K.n1o i (by omega) c2,Uo _ _ (nJ _ c2) (by
        have:=bq (K.z (i+1) c2)
        have:=bC (G.hd _ this).1
        omega) (λj hj e=>by have:=K.inj (i+1) j (by omega) (by omega) e;omega),xb (i+1) c2]
      ·have:i=R.length-1:=by omega
       subst this;rw [se,K.n1e,Ux 0 (cw _)];exact (Uh o).symm
    ·have e:=K.n1 x y d0 ad
     have tr:=(G.tri x y d0 ad).2;have dn:=eV g d0
     have lo:∀p q,aG w (p,q)→¬bL R p q→U (p,q)=S (p,q):=λp q h1 h2=>by
      have a1:=bC (show q∈row w p from h1);have a2:=g.rng _ _ (show q∈row w p from h1);exact Uo p q (by omega) (by omega) λk hk e1 e2=>h2 ⟨by rw [e1];exact K.z k (by omega),by rw [e1,e2,sx k (by omega)]⟩
     rw [e,lo x y d0 ad,SF _ d0];exact (lo _ _ dn tr).symm
 ·by_cases xv:x=w.length
  ·subst xv
   obtain ⟨k,hk,rfl⟩:=(K.dv y).mp hd;rw [Uv k hk,Ux k hk];cases k with
   |zero=>
    rw [s0];show (o.xor _).xor (o.xor false)=_;cases o<;>cases c w.length (R.getD 0 0)<;>rfl
   |succ k=>
    rw [ss k];show (o.xor _).xor (o.xor (s k))=_;cases o<;>cases s k<;>cases c w.length (R.getD (k+1) 0)<;>rfl
  ·by_cases yv:y=w.length
   ·subst yv
    rcases (K.dx x xv _).mp hd with h| ⟨_,k,hk,rfl⟩
    ·exact absurd (g.rng _ _ h) (gP _)
    ·rw [Uv k hk,Ux k hk,sy]
     cases k with
     |zero=>
      rw [s0];show (o.xor false).xor (o.xor _)=_;cases o<;>cases c w.length (R.getD 0 0)<;>rfl
     |succ k=>
      rw [ss k];show (o.xor (s k)).xor (o.xor _)=_;cases o<;>cases s k<;>cases c w.length (R.getD (k+1) 0)<;>rfl
   ·have d0:aG w (x,y):=by
     rcases (K.dx x xv y).mp hd with h| ⟨h,_⟩
     ·exact h
     ·exact absurd h yv
    have sc:=SC x y d0
    by_cases a1:∃k,k<f∧x=R.getD k 0∧y=R.getD (k+1) 0
    ·obtain ⟨k,hk,rfl,rfl⟩:=a1
     have e1:S (R.getD k 0,R.getD (k+1) 0)=o:=by rw [←sx k (by omega)];exact xb k (by omega)
     have e2:de (R.getD k 0) (R.getD (k+1) 0)=s k:=by rw [NJ k hk];simp
     have e3:de (R.getD (k+1) 0) (R.getD k 0)=false:=decide_eq_false λ⟨j,hj,e,e',_⟩=>by
      have:=K.inj (k+1) j (by omega) (by omega) e
      have:=K.inj k (j+1) (by omega) (by omega) e'
      omega
     rw [Ua k hk,Uo _ _ (nJ (k+1) (by omega)) (nJ k (by omega)) (λj hj e e'=>by
      have:=K.inj (k+1) j (by omega) (by omega) e
      have:=K.inj k (j+1) (by omega) (by omega) e'
      omega)]
     rw [e1,e2,e3] at sc
     revert sc
     cases o<;>cases s k<;>cases S (R.getD (k+1) 0,R.getD k 0)<;>cases c (R.getD k 0) (R.getD (k+1) 0)<;>simp
    ·by_cases a2:∃k,k<f∧y=R.getD k 0∧x=R.getD (k+1) 0
     ·obtain ⟨k,hk,rfl,rfl⟩:=a2
      have e1:S (R.getD k 0,R.getD (k+1) 0)=o:=by rw [←sx k (by omega)];exact xb k (by omega)
      have e2:de (R.getD k 0) (R.getD (k+1) 0)=s k:=by rw [NJ k hk];simp
      have e3:de (R.getD (k+1) 0) (R.getD k 0)=false:=decide_eq_false λ⟨j,hj,e,e',_⟩=>by
       have:=K.inj (k+1) j (by omega) (by omega) e
       have:=K.inj k (j+1) (by omega) (by omega) e'
       omega
      rw [Ua k hk,Uo _ _ (nJ (k+1) (by omega)) (nJ k (by omega)) (λj hj e e'=>a1 ⟨j,hj,e,e'⟩)]
      rw [e1,e2,e3] at sc
      revert sc
      cases o<;>cases s k<;>cases S (R.getD (k+1) 0,R.getD k 0)<;>cases c (R.getD (k+1) 0) (R.getD k 0)<;>simp
     ·have e2:de x y=false:=decide_eq_false λ⟨j,hj,e,e',_⟩=>a1 ⟨j,hj,e,e'⟩
      have e3:de y x=false:=decide_eq_false λ⟨j,hj,e,e',_⟩=>a2 ⟨j,hj,e,e'⟩;rw [Uo x y xv yv (λj hj e e'=>a1 ⟨j,hj,e,e'⟩),Uo y x yv xv (λj hj e e'=>a2 ⟨j,hj,e,e'⟩),sc,e2,e3];simp
theorem B8(G:bW w R)(T:Step w w' R f):bW w' (bR R f w.length):=by
 have g:=G.g;have g':=oS G T;have fn:=T.fn;have f1:=T.f1;have K:=sg G T;have F:=D2 G T;have len:=G.len;have nJ:∀k,k<R.length→R.getD k 0≠w.length:=λk h=>by have:=K.zlt k h;omega
 have sx:∀i,i+1<R.length→ae R (R.getD i 0)=R.getD (i+1) 0:=λi h=>aC G.nd h;have se:ae R (R.getD (R.length-1) 0)=R.getD 0 0:=aY G.nd (by omega)
 have ME:∀k,k<R.length→(row w (R.getD k 0)).length≠0:=λk hk z=>by
  have:=(G.hd _ (K.z k hk)).1
  rw [Cm.mp z] at this;cases this
 have rvl:(R.take (f+1)).reverse.length=f+1:=by rw [qx,cm];omega
 have e0:=dS fn (cw f);have ef:=dS fn (bx f);rw [Nat.sub_zero] at e0;rw [jj] at ef;have m0:R.getD 0 0∈bR R f w.length:=(F.mem _).mpr (.inl rfl);have mv:w.length∈bR R f w.length:=(F.mem _).mpr (.inr (.inl rfl));have mi:∀i,f≤i→i<R.length→R.getD i 0∈bR R f w.length:=λi h1 h2=>(F.mem _).mpr (.inr (.inr ⟨i,h1,h2,rfl⟩));have Ff:∀i,f<i→i<R.length→row w' (R.getD i 0)=row w (R.getD i 0):=λi h1 h2=>T.ro _ (nJ i h2) λk hk e=>by have:=K.inj i k h2 (by omega) e;omega
 refine ⟨g',F.nd,by have:=F.len;omega,λx hx=>?_,λx hx=>?_,λx y hd n=>?_,GD G T⟩
 ·rcases (F.mem x).mp hx with rfl|rfl| ⟨i,h1,h2,rfl⟩
  ·rw [F.s0,T.r0]
   exact ⟨cB ..,rfl⟩
  ·rw [F.sv,T.rv]
   exact ⟨by rw [←ef];exact aD (by omega),ef⟩
  ·rw [F.si i h1 h2]
   have h:=G.hd _ (K.z i h2)
   by_cases c:i=f
   ·subst c
    rw [T.rk i f1 (bx _)];refine ⟨fb _ h.1,?_⟩;rw [aS,eB (by have:=ME i h2;omega),←aS]
    exact h.2
   ·rw [Ff i (by omega) h2];exact h
 ·rcases (F.mem x).mp hx with rfl|rfl| ⟨i,h1,h2,rfl⟩
  ·have h:=G.ls _ (K.z 0 (by omega))
   have el:(row w' (R.getD 0 0)).getD ((row w' (R.getD 0 0)).length-1) 0=R.getD (R.length-1) 0:=by
    have l0:=ME 0 (by omega)
    rw [T.r0,dh,show (row w (R.getD 0 0)).length+1-1=(row w (R.getD 0 0)).length-1+1 by omega,kP]
    exact df G.nd h.1 (K.z _ (by omega)) (by rw [h.2,se])
   rw [el];exact ⟨mi _ (by omega) (by omega),by rw [F.si _ (by omega) (by omega),se]⟩
  ·rw [T.rv,rvl,show f+1-1=f by omega,e0]
   exact ⟨m0,F.s0⟩
  ·by_cases c:i=f
   ·subst c
    have el:(row w' (R.getD i 0)).getD ((row w' (R.getD i 0)).length-1) 0=w.length:=by
     rw [T.rk i f1 (bx _),b9,vC,Nat.add_sub_cancel,aS,fZ (bx _),jj];rfl
    rw [el];exact ⟨mv,F.sv⟩
   ·obtain ⟨e,ne⟩:=G.uq (K.z i h2) (K.z (i-1) (by omega)) (by rw [sx (i-1) (by omega),show i-1+1=i by omega])
    rw [Ff i (by omega) h2,e]
    refine ⟨mi _ (by omega) (by omega),?_⟩
    rw [F.si _ (by omega) (by omega),sx (i-1) (by omega),show i-1+1=i by omega]
 ·by_cases xv:x=w.length
  ·subst xv
   obtain ⟨k,hk,rfl⟩:=(K.dv y).mp hd
   have kf:k<f:=by
    apply Classical.byContradiction;intro c
    have:k=f:=by omega
    subst this;exact n ⟨mv,F.sv.symm⟩
   have e1:=K.n4 k hk;rw [sx k (by omega)] at e1
   rw [e1,K.n2 k kf,K.n3 k kf];refine ⟨rfl,λz=>?_⟩
   rcases F.bL z with ⟨_,h⟩ | ⟨h,_⟩ | ⟨i,h1,h2,h3,_⟩
   ·exact nJ (k+1) (by omega) h
   ·exact nJ k (by omega) h
   ·have:=K.inj k i (by omega) h2 h3;omega
  ·by_cases yv:y=w.length
   ·subst yv
    rcases (K.dx x xv _).mp hd with h| ⟨_,k,hk,rfl⟩
    ·exact absurd (g.rng _ _ h) (gP _)
    ·cases k with
     |zero=>exact absurd ⟨m0,F.s0.symm⟩ n
     |succ k=>
      have e4:=K.n4 k (by omega)
      rw [sx k (by omega)] at e4
      rw [K.n3 k (by omega),e4,K.n2 k (by omega)]
      refine ⟨rfl,λz=>?_⟩
      rcases F.bL z with ⟨h,_⟩ | ⟨_,h⟩ | ⟨i,h1,h2,h3,_⟩
      ·exact nJ 0 (by omega) h.symm
      ·have:=K.inj k f (by omega) fn h;omega
      ·exact nJ i h2 h3.symm
   ·have d0:aG w (x,y):=by
     rcases (K.dx x xv y).mp hd with h| ⟨h,_⟩
     ·exact h
     ·exact absurd h yv
    by_cases ad:bL R x y
    ·obtain ⟨hx,rfl⟩:=ad
     obtain ⟨i,hi,rfl⟩:∃i,i<R.length∧x=R.getD i 0:=by
      obtain ⟨i,hi,e⟩:=fK.mp hx;exact ⟨i,hi,by rw [aS,bA hi];exact e.symm⟩
     have c1:i<f:=by
      apply Classical.byContradiction;intro c;exact n ⟨mi i (by omega) hi,(F.si i (by omega) hi).symm⟩
     have e4:=K.n4 i (by omega)
     rw [sx i (by omega)] at e4
     rw [sx i (by omega),K.n2 i c1,K.n3 i c1,e4]
     refine ⟨rfl,λz=>?_⟩
     rcases F.bL z with ⟨h,_⟩ | ⟨h,_⟩ | ⟨j,h1,h2,_,h4⟩
     ·have:=K.inj (i+1) 0 (by omega) (by omega) h;omega
     ·exact nJ (i+1) (by omega) h
     ·have:=bq (K.z j h2)
      have:=bC (G.hd _ this).1
      have h4:w.length=ae R (R.getD j 0):=h4;omega
    ·have step:∀p q,aG w (p,q)→¬bL R p q→aX w' (p,q)=aX w (p,q):=λp q h1 h2=>K.n1 p q h1 h2
     have t1:=G.tri x y d0 ad;have d1:=eV g d0;have t2:=G.tri _ _ d1 t1.2;have d2:=eV g d1;have e1:=step x y d0 ad;have e2:aX w' (aX w (x,y))=aX w (aX w (x,y)):=step _ _ d1 t1.2;have e3:aX w' (aX w (aX w (x,y)))=aX w (aX w (aX w (x,y))):=step _ _ d2 t2.2;rw [e1,e2,e3];refine ⟨t1.1,λz=>?_⟩;have b1:=bC (show (aX w (x,y)).2∈row w (aX w (x,y)).1 from d1);have b2:=g.rng _ _ (show (aX w (x,y)).2∈row w (aX w (x,y)).1 from d1)
     rcases F.bL z with ⟨_,h⟩ | ⟨h,_⟩ | ⟨i,h1,h2,h3,h4⟩
     ·omega
     ·omega
     ·exact t1.2 ⟨by rw [h3];exact K.z i h2,by rw [h4,←h3]⟩
theorem y4:bW [[1,2],[2,0],[0,1]] [0,1,2]:=by
 have Fe:row [[1,2],[2,0],[0,1]] 0= [1,2]:=rfl;have MR:row [[1,2],[2,0],[0,1]] 1= [2,0]:=rfl;have UO:row [[1,2],[2,0],[0,1]] 2= [0,1]:=rfl;have Ff:∀x,3≤x→row [[1,2],[2,0],[0,1]] x= []:=λx h=>BV h;have c3:∀x,x<3→x=0∨x=1∨x=2:=λx h=>by omega
 have rl:∀{x y},y∈row [[1,2],[2,0],[0,1]] x→x<3:=λh=>bC h;have dec:∀x,x<3→∀y,y<3→(y∈row [[1,2],[2,0],[0,1]] x↔x≠y):=by decide
 have inR:∀{x y},y∈row [[1,2],[2,0],[0,1]] x→y<3:=λ {x y} h=>by
  rcases c3 x (rl h) with rfl|rfl|rfl
  ·rw [Fe] at h;simp at h;omega
  ·rw [MR] at h;simp at h;omega
  ·rw [UO] at h;simp at h;omega
 have g:Good [[1,2],[2,0],[0,1]]:=by
  refine ⟨λp q h=>inR h,λp h=>?_,λp=>?_,λp q h=>?_,λp hp=>?_⟩
  ·exact ((dec p (rl h) p (rl h)).mp h) rfl
  ·by_cases c:p<3
   ·rcases c3 p c with rfl|rfl|rfl<;>decide
   ·rw [Ff p (by omega)];exact kW
  ·have a:=rl h
   have b:=inR h;exact (dec q b p a).mpr (Ne.symm ((dec p a q b).mp h))
  ·rcases c3 p hp with rfl|rfl|rfl
   ·exact .refl _
   ·exact .step (.refl _) (by rw [Fe];simp)
   ·exact .step (.refl _) (by rw [Fe];simp)
 have yV:∀x y,aG [[1,2],[2,0],[0,1]] (x,y)→(x,y)∈ [(0,1),(1,2),(2,0),(1,0),(0,2),(2,1)]:=λx y h=>by
  have a:=rl h;have b:=inR h;have n:=(dec x a y b).mp h
  rcases c3 x a with rfl|rfl|rfl<;>rcases c3 y b with rfl|rfl|rfl<;>first|exact absurd rfl n|decide
 have sc:ae [0,1,2] 0=1∧ae [0,1,2] 1=2∧ae [0,1,2] 2=0:=by decide
 refine ⟨g,by decide,by decide,by decide,by decide,λx y hd n=>?_,?_⟩
 ·have hm:=yV x y hd
  simp only [cn,Prod.mk.injEq,rE,or_false] at hm
  rcases hm with ⟨rfl,rfl⟩ | ⟨rfl,rfl⟩ | ⟨rfl,rfl⟩ | ⟨rfl,rfl⟩ | ⟨rfl,rfl⟩ | ⟨rfl,rfl⟩
  ·exact absurd ⟨by simp,sc.1.symm⟩ n
  ·exact absurd ⟨by simp,sc.2.1.symm⟩ n
  ·exact absurd ⟨by simp,sc.2.2.symm⟩ n
  ·exact ⟨by decide,λz=>by have h:=z.2;revert h;decide⟩
  ·exact ⟨by decide,λz=>by have h:=z.2;revert h;decide⟩
  ·exact ⟨by decide,λz=>by have h:=z.2;revert h;decide⟩
 ·intro c sy ev
  have h0:=ev 0 (by decide)
  have h1:=ev 1 (by decide)
  rw [Fe] at h0;rw [MR] at h1;simp only [par,vy] at h0 h1;refine ⟨λd=>decide (d=(1,0)∨d=(0,2)∨d=(2,1))&&c 0 1,λd hd=>?_,λx y hd=>?_⟩
  ·obtain ⟨x,y⟩:=d
   have hm:=yV x y hd;simp only [cn,Prod.mk.injEq,rE,or_false] at hm
   rcases hm with ⟨rfl,rfl⟩ | ⟨rfl,rfl⟩ | ⟨rfl,rfl⟩ | ⟨rfl,rfl⟩ | ⟨rfl,rfl⟩ | ⟨rfl,rfl⟩<;>(refine congrArg (·&&c 0 1) ?_;decide)
  ·have hm:=yV x y hd
   simp only [cn,Prod.mk.injEq,rE,or_false] at hm;have e1:c 0 2=c 0 1:=by revert h0;cases c 0 1<;>cases c 0 2<;>simp
   have e2:c 1 2=c 0 1:=by
    rw [sy 1 0] at h1
    revert h1;cases c 0 1<;>cases c 1 2<;>simp
   rcases hm with ⟨rfl,rfl⟩ | ⟨rfl,rfl⟩ | ⟨rfl,rfl⟩ | ⟨rfl,rfl⟩ | ⟨rfl,rfl⟩ | ⟨rfl,rfl⟩
   ·simp
   ·simp [e2]
   ·rw [sy 2 0,e1];simp
   ·rw [sy 1 0];simp
   ·simp [e1]
   ·rw [sy 2 1,e2];simp
end
structure j0 (w w':W) (f:Nat→Nat):Prop where
 len:w'.length=w.length
 lt:∀x,x<w.length→f x<w.length
 inj:∀x y,x<w.length→y<w.length→f x=f y→x=y
 onto:∀y,y<w.length→∃x,x<w.length∧f x=y
 rows:∀x,x<w.length→∃a b,row w x=a++b∧row w' (f x)=(b++a).map f
theorem uk{f:Nat→Nat}{x:Nat}:∀{l:List Nat},(∀y∈l,f y=f x→y=x)→(l.map f).idxOf (f x)=l.idxOf x
 | [],_=>rfl
 |a::l,h=>by
  rw [iV,rF,rF,uk λy hy=>h y (cI _ hy)]
  by_cases c:a=x
  ·subst c;simp
  ·have:f a≠f x:=λz=>c (h a (cB ..) z)
   have e1:(f a==f x)=false:=by simpa using this
   have e2:(a==x)=false:=by simpa using c
   rw [e1,e2]
theorem oT{f:Nat→Nat}{l:List Nat}{x:Nat}(h:∀y∈l,f y=f x→y=x)(hx:x∈l):ae (l.map f) (f x)=f (ae l x):=by
 have e:=kD hx;show (l.map f).getD (((l.map f).idxOf (f x)+1)%(l.map f).length) 0=_;rw [uk h,aK,aS,fc,e];rfl
section
variable {w w':W} {f:Nat→Nat}
theorem j0.good(N:j0 w w' f)(g:Good w):Good w':=
 good_ren g N.len N.lt N.inj N.onto λp hp=>by
  obtain ⟨a,b,e1,e2⟩:=N.rows p hp;rw [e1,e2];exact (fj (l₁:=b) (l₂:=a)).map f
theorem j0.mem(N:j0 w w' f){x z:Nat}(hx:x<w.length):z∈row w' (f x)↔∃y,y∈row w x∧f y=z:=by
 obtain ⟨a,b,e1,e2⟩:=N.rows x hx;rw [e2,fg]
 constructor
 ·rintro ⟨y,hy,rfl⟩
  exact ⟨y,by rw [e1];exact fj.mem_iff.mp hy,rfl⟩
 ·rintro ⟨y,hy,rfl⟩
  rw [e1] at hy;exact ⟨y,fj.mem_iff.mp hy,rfl⟩
theorem j0.dart(N:j0 w w' f)(g:Good w){x y:Nat}(hx:x<w.length)(hy:y<w.length):aG w' (f x,f y)↔aG w (x,y):=by
 show f y∈row w' (f x)↔y∈row w x;rw [N.mem hx]
 constructor
 ·rintro ⟨z,hz,e⟩
  have:=N.inj z y (g.rng _ _ hz) hy e
  rw [←this];exact hz
 ·exact λh=>⟨y,h,rfl⟩
theorem j0.all(N:j0 w w' f)(g:Good w){d:Nat×Nat}(h:aG w' d):∃x y,aG w (x,y)∧d=(f x,f y):=by
 obtain ⟨a,b⟩:=d;have ha:=bC (show b∈row w' a from h);rw [N.len] at ha;obtain ⟨x,hx,rfl⟩:=N.onto a ha;obtain ⟨y,hy,e⟩:=(N.mem hx).mp h;have e:f y=b:=e;exact ⟨x,y,hy,by rw [e]⟩
theorem j0.succ(N:j0 w w' f)(g:Good w){x y:Nat}(h:y∈row w x):ae (row w' (f x)) (f y)=f (ae (row w x) y):=by
 obtain ⟨a,b,e1,e2⟩:=N.rows x (bC h);have hm:y∈a++b:=e1▸h;have FV:y∈b++a:=fj.mem_iff.mp hm;have nd:=g.nod x;rw [e1] at nd;rw [e2,e1,oT (λz hz e=>N.inj z y (g.rng x z (by rw [e1];exact fj.mem_iff.mp hz)) (g.rng _ _ h) e) FV,fD nd hm]
theorem j0.II(N:j0 w w' f)(g:Good w){x y:Nat}(h:aG w (x,y)):aX w' (f x,f y)=(f (aX w (x,y)).1,f (aX w (x,y)).2):=by
 show (f y,ae (row w' (f y)) (f x))=(f y,f (ae (row w y) x));rw [N.succ g (g.sym _ _ h)]
theorem j0.HA(N:j0 w w' f)(g:Good w){R:List Nat}{A:Nat×Nat→Prop}(D:Disc w R A):
  Disc w' (R.map f) λd=>∃x y,A (x,y)∧d=(f x,f y):=by
 have lj:∀{x y},aG w (x,y)→x<w.length∧y<w.length:=λh=>⟨bC h,g.rng _ _ h⟩;have Dm:∀p∈R,p<w.length:=λp hp=>(lj (D.ring p hp).1).2;have inj:∀p∈R,∀y∈R,f y=f p→y=p:=λp hp y hy e=>N.inj y p (Dm y hy) (Dm p hp) e
 have wN:∀{x y},aG w (x,y)→((∃x' y',A (x',y')∧(f x,f y)=(f x',f y'))↔A (x,y)):=λ {x y} h=>by
  constructor
  ·rintro ⟨x',y',a,e⟩
   have h':=lj (D.dart _ a);have e1:=N.inj x x' (lj h).1 h'.1 (congrArg Prod.fst e);have e2:=N.inj y y' (lj h).2 h'.2 (congrArg Prod.snd e);rw [e1,e2];exact a
  ·exact λa=>⟨x,y,a,rfl⟩
 have sR:∀p∈R,ae (R.map f) (f p)=f (ae R p):=λp hp=>oT (inj p hp) hp;have nx:∀{x y},aG w (x,y)→aG w ((aX w (x,y)).1,(aX w (x,y)).2):=λh=>eV g h;refine ⟨?_,by rw [aK];exact D.len,?_,?_,?_,?_,?_⟩
 ·unfold List.Nodup
  rw [kS];exact List.Pairwise.imp_of_mem (λ {a b} ha hb ne e=>ne (inj b hb a ha e)) D.nd
 ·rintro d ⟨x,y,a,rfl⟩
  have h:=D.dart _ a;exact (N.dart g (lj h).1 (lj h).2).mpr h
 ·intro d hd
  obtain ⟨x,y,h,rfl⟩:=N.all g hd;rw [N.II g h,wN h,wN (nx h)];exact D.face _ h
 ·rintro d ⟨x,y,a,rfl⟩
  have h:=D.dart _ a;rw [N.II g h,N.II g (nx h),N.II g (nx (nx h))];have e:=D.tri _ a;show (f (aX w (aX w (aX w (x,y)))).1,f (aX w (aX w (aX w (x,y)))).2)=_;rw [e]
 ·intro p' h8
  obtain ⟨p,hp,rfl⟩:=fg.mp h8;rw [sR p hp];have r:=D.ring p hp;have h:=lj r.1;refine ⟨(N.dart g h.1 h.2).mpr r.1,(wN r.1).mpr r.2.1,λz=>r.2.2 ((wN (g.sym _ _ r.1)).mp z)⟩
 ·intro p' q' hd n1 n2
  obtain ⟨p,q,h,e⟩:=N.all g hd;obtain ⟨rfl,rfl⟩:=Prod.mk.injEq .. ▸e;rw [wN h,wN (g.sym _ _ h)];refine D.sym p q h (λz=>n1 ⟨fg.mpr ⟨p,z.1,rfl⟩,by rw [sR p z.1,←z.2]⟩) (λz=>n2 ⟨fg.mpr ⟨q,z.1,rfl⟩,by rw [sR q z.1,←z.2]⟩)
theorem pY{α β:Type}(c:β→Bool)(f:α→β):∀l:List α,par c (l.map f)=par (λx=>c (f x)) l
 | []=>rfl
 |x::l=>by rw [iV,par,par,pY c f l]
open Classical in
theorem j0.bnd(N:j0 w w' f)(g:Good w)(B:qC w):qC w':=by
 intro c sy ev;have lj:∀{x y},aG w (x,y)→x<w.length∧y<w.length:=λh=>⟨bC h,g.rng _ _ h⟩
 obtain ⟨S,h1,h2⟩:=B (λx y=>c (f x) (f y)) (λx y=>sy _ _) (λp hp=>by
  obtain ⟨a,b,e1,e2⟩:=N.rows p hp
  have:=ev (f p) (by rw [N.len];exact N.lt p hp)
  rw [e2,pY,jO] at this;rw [e1,jO,Bool.xor_comm];exact this)
 have val:∀{x y},aG w (x,y)→decide (∃x' y',aG w (x',y')∧S (x',y')=true∧(f x,f y)=(f x',f y'))=S (x,y):=λ {x y} h=>by
  by_cases s:S (x,y)=true
  ·rw [s]
   exact decide_eq_true ⟨x,y,h,s,rfl⟩
  ·rw [Bool.not_eq_true] at s
   rw [s];refine decide_eq_false ?_;rintro ⟨x',y',h',s',e⟩;have e1:=N.inj x x' (lj h).1 (lj h').1 (congrArg Prod.fst e);have e2:=N.inj y y' (lj h).2 (lj h').2 (congrArg Prod.snd e);rw [e1,e2,s'] at s;exact absurd s (by decide)
 have nx:∀{x y},aG w (x,y)→aG w ((aX w (x,y)).1,(aX w (x,y)).2):=λh=>eV g h;refine ⟨λd=>decide (∃x' y',aG w (x',y')∧S (x',y')=true∧d=(f x',f y')),λd hd=>?_,λa b hd=>?_⟩
 ·obtain ⟨x,y,h,rfl⟩:=N.all g hd
  rw [N.II g h];show decide _=decide _;rw [val h,val (nx h)];exact h1 _ h
 ·obtain ⟨x,y,h,e⟩:=N.all g hd
  obtain ⟨rfl,rfl⟩:=Prod.mk.injEq .. ▸e;show (decide _).xor (decide _)=_;rw [val h,val (g.sym _ _ h)];exact h2 _ _ h
end
theorem bW.three{w:W}{R:List Nat}(G:bW w R)(l3:R.length=3){d:Nat×Nat}(hd:aG w d):aX w (aX w (aX w d))=d:=by
 by_cases c:bL R d.1 d.2
 ·have e1:aX w d=(d.2,ae R d.2):=G.outer c
  have m2:d.2∈R:=by rw [c.2];exact bq c.1
  have e2:=G.outer (x:=d.2) (y:=ae R d.2) ⟨m2,rfl⟩;have m3:=bq m2;have e3:=G.outer (x:=ae R d.2) (y:=ae R (ae R d.2)) ⟨m3,rfl⟩;rw [e1,e2,e3,c.2]
  have key:∀x∈R,ae R (ae R (ae R x))=x:=λx hx=>by
   match R,l3,G.nd,hx with
   | [a,b,e],_,nd,hx=>
    simp only [hU,cn,rE,or_false,not_or] at nd;have s1:ae [a,b,e] a=b:=bK (a:= []) (b:= [e]) (by simp [nd])
    have s2:ae [a,b,e] b=e:=bK (a:= [a]) (b:= []) (by simp [nd])
    have s3:ae [a,b,e] e=a:=cT (b:= [b]) (by simp [nd])
    simp only [cn,rE,or_false] at hx
    rcases hx with rfl|rfl|rfl
    ·rw [s1,s2,s3]
    ·rw [s2,s3,s1]
    ·rw [s3,s1,s2]
  rw [key _ c.1];exact Prod.ext rfl c.2.symm
 ·exact (G.tri d.1 d.2 hd c).1
theorem Df{w:W}(g:Good w)(tri:∀d,aG w d→aX w (aX w (aX w d))=d){a b:Nat}(hd:aG w (a,b)):
  Disc w [a,b,ae (row w b) a] λd=>aG w d∧d≠(a,b)∧d≠(b,ae (row w b) a)∧d≠(ae (row w b) a,a):=by
 have e1:aX w (a,b)=(b,ae (row w b) a):=rfl;have d2:aG w (b,ae (row w b) a):=e1▸eV g hd;generalize hc:ae (row w b) a=c at*;have e3:=tri _ hd;rw [e1] at e3;have W5:aX w (b,c)=(c,ae (row w c) b):=rfl
 have e2:aX w (b,c)=(c,a):=by
  rw [W5] at e3 ⊢
  have:=congrArg Prod.fst e3
  exact congrArg _ this
 have d3:aG w (c,a):=e2▸eV g d2;have sM:aX w (c,a)=(a,b):=by rw [e2] at e3;exact e3
 have Gd:a≠b:=λz=>g.irr a (by have:b∈row w a:=hd;rw [←z] at this;exact this)
 have K3:b≠c:=λz=>g.irr b (by have:c∈row w b:=d2;rw [←z] at this;exact this)
 have K4:c≠a:=λz=>g.irr c (by have:a∈row w c:=d3;rw [←z] at this;exact this)
 have nd: [a,b,c].Nodup:=by simp [Gd,K3,Ne.symm K4]
 have s1:ae [a,b,c] a=b:=bK (a:= []) (b:= [c]) nd;have s2:ae [a,b,c] b=c:=bK (a:= [a]) (b:= []) nd;have s3:ae [a,b,c] c=a:=cT (b:= [b]) nd
 have step:∀d,aG w d→((d≠(a,b)∧d≠(b,c)∧d≠(c,a))↔(aX w d≠(a,b)∧aX w d≠(b,c)∧aX w d≠(c,a))):=λd h=>by
  have i1:aX w d=(a,b)↔d=(c,a):=⟨λz=>jM g h d3 (z.trans sM.symm),λz=>by rw [z,sM]⟩
  have i2:aX w d=(b,c)↔d=(a,b):=⟨λz=>jM g h hd (z.trans e1.symm),λz=>by rw [z,e1]⟩
  have i3:aX w d=(c,a)↔d=(b,c):=⟨λz=>jM g h d2 (z.trans e2.symm),λz=>by rw [z,e2]⟩
  rw [Ne,Ne,Ne,Ne,Ne,Ne,i1,i2,i3];exact ⟨λh=>⟨h.2.2,h.1,h.2.1⟩,λh=>⟨h.2.1,h.2.2,h.1⟩⟩
 refine ⟨nd,by simp,λd h=>h.1,λd h=>?_,λd h=>tri d h.1,λp hp=>?_,λp q h n1 n2=>?_⟩
 ·exact ⟨λz=>⟨eV g h,(step d h).mp z.2⟩,λz=>⟨h,(step d h).mpr z.2⟩⟩
 ·simp only [cn,rE,or_false] at hp
  rcases hp with rfl|rfl|rfl
  ·rw [s1]
   exact ⟨g.sym _ _ hd,⟨g.sym _ _ hd,λz=>Gd (congrArg Prod.snd z),λz=>K4 (congrArg Prod.snd z).symm,λz=>K3 (congrArg Prod.fst z)⟩,λz=>z.2.1 rfl⟩
  ·rw [s2]
   exact ⟨g.sym _ _ d2,⟨g.sym _ _ d2,λz=>K4 (congrArg Prod.fst z),λz=>K3 (congrArg Prod.snd z),λz=>Gd (congrArg Prod.snd z).symm⟩,λz=>z.2.2.1 rfl⟩
  ·rw [s3]
   exact ⟨g.sym _ _ d3,⟨g.sym _ _ d3,λz=>K3 (congrArg Prod.snd z).symm,λz=>Gd (congrArg Prod.fst z),λz=>K4 (congrArg Prod.snd z)⟩,λz=>z.2.2.2 rfl⟩
 ·have key:∀p q,aG w (p,q)→¬(q∈ [a,b,c]∧p=ae [a,b,c] q)→(q,p)≠(a,b)∧(q,p)≠(b,c)∧(q,p)≠(c,a):=λp q h n=>by
   refine ⟨λz=>n ?_,λz=>n ?_,λz=>n ?_⟩
   ·have z1:q=a:=congrArg Prod.fst z
    have z2:p=b:=congrArg Prod.snd z;rw [z1,z2,s1];exact ⟨by simp,rfl⟩
   ·have z1:q=b:=congrArg Prod.fst z
    have z2:p=c:=congrArg Prod.snd z;rw [z1,z2,s2];exact ⟨by simp,rfl⟩
   ·have z1:q=c:=congrArg Prod.fst z
    have z2:p=a:=congrArg Prod.snd z;rw [z1,z2,s3];exact ⟨by simp,rfl⟩
  exact ⟨λ_=>⟨g.sym _ _ h,key p q h n2⟩,λ_=>⟨h,key q p (g.sym _ _ h) n1⟩⟩
def bS(R:List Nat)(i:Nat):Nat:=if i=0 then R.length-1 else i-1
def withinL(w:W)(R:List Nat)(i:Nat):List Nat:=
 ((row w (R.getD i 0)).drop ((row w (R.getD i 0)).idxOf (R.getD ((i+1)%R.length) 0)+1)++(row w (R.getD i 0)).take ((row w (R.getD i 0)).idxOf (R.getD ((i+1)%R.length) 0))).take
   (((row w (R.getD i 0)).drop ((row w (R.getD i 0)).idxOf (R.getD ((i+1)%R.length) 0)+1)++(row w (R.getD i 0)).take ((row w (R.getD i 0)).idxOf (R.getD ((i+1)%R.length) 0))).idxOf (R.getD (bS R i) 0))
theorem iz{R:List Nat}{i:Nat}(nd:R.Nodup)(h:i<R.length):ae R (R.getD i 0)=R.getD ((i+1)%R.length) 0:=by
 by_cases c:i+1<R.length
 ·rw [aC nd c,mM c]
 ·rw [aY nd (by omega),show i+1=R.length by omega,rG]
theorem gL{R:List Nat}{i:Nat}(nd:R.Nodup)(h:i<R.length):ae R (R.getD (bS R i) 0)=R.getD i 0:=by
 unfold bS
 split
 ·next e=>subst e;rw [aY nd (by omega)]
 ·next e=>rw [aC nd (by omega),show i-1+1=i by omega]
theorem fG{R:List Nat}{i:Nat}(h:i<R.length):bS R i<R.length:=by unfold bS;split<;>omega
theorem ku{l:List Nat}{a:Nat}(h:a∈l):bT l a=a::(l.drop (l.idxOf a+1)++l.take (l.idxOf a)):=by
 unfold bT;have hl:=gN.mpr h;rw [qv hl,iU hl,List.cons_append]
theorem take_range{T:List Nat}{a n:Nat}(h:n≤T.length):T.take n=(List.range n).map λk=>(a::T).getD (k+1) 0:=by
 refine List.ext_getElem (by simp [Nat.min_eq_left h]) λk h1 h2=>?_
 rw [yF,List.getElem_map,List.getElem_range];rw [aK,ji] at h2;show _=(a::T).getD (k+1) 0;rw [kP,aS,bA (by omega)]
 rfl
section
variable {w:W} {R:List Nat} {A:Nat×Nat→Prop}
theorem mH(g:Good w)(D:Disc w R A){i:Nat}(hi:i<R.length):
  ∃m y,Whole w R (R.getD i 0) m (row w (R.getD i 0)).length y∧y 0=R.getD ((i+1)%R.length) 0∧y m=R.getD (bS R i) 0∧
   withinL w R i=(List.range (m-1)).map λk=>y (k+1):=by
 have hv:=aD hi;have hb:=aD (fG hi);have eb:=gL D.nd hi;have F:=nk g D hv hb eb;have am:ae R (R.getD i 0)∈row w (R.getD i 0):=g.sym _ _ (D.ring _ hv).1;have pos:=F.at_.fan.pos
 have ym:(bT (row w (R.getD i 0)) (ae R (R.getD i 0))).getD ((bT (row w (R.getD i 0)) (ae R (R.getD i 0))).idxOf (R.getD (bS R i) 0)) 0=R.getD (bS R i) 0:=by
  have bm:R.getD (bS R i) 0∈row w (R.getD i 0):=by
   have:=(D.ring _ hb).1
   rw [eb] at this;exact this
  have bl:=gN.mpr ((iO (row w (R.getD i 0)) (ae R (R.getD i 0))).mem_iff.mpr bm);rw [aS,bA bl,iU bl];rfl
 refine ⟨_,_,F,by rw [←iz D.nd hi];exact uT am,ym,?_⟩
 unfold withinL;rw [←iz D.nd hi];have bN:=F.lt;have hlen:=m8 (row w (R.getD i 0)) (ae R (R.getD i 0));rw [ku am] at pos bN hlen ⊢;generalize hT:(row w (R.getD i 0)).drop ((row w (R.getD i 0)).idxOf (ae R (R.getD i 0))+1)++(row w (R.getD i 0)).take ((row w (R.getD i 0)).idxOf (ae R (R.getD i 0)))=T at*
 have ne:(ae R (R.getD i 0)==R.getD (bS R i) 0)=false:=by
  rw [rF] at pos;cases c:(ae R (R.getD i 0)==R.getD (bS R i) 0)
  ·rfl
  ·rw [c] at pos;simp at pos
 rw [rF,ne] at bN ⊢;simp only [cond_false] at bN ⊢;rw [dh] at hlen;rw [Nat.add_sub_cancel];exact take_range (by omega)
theorem gI{m:Nat}{y:Nat→Nat}{z:Nat}:z∈(List.range (m-1)).map (λk=>y (k+1))↔∃k,0<k∧k<m∧y k=z:=by
 rw [fg]
 constructor
 ·rintro ⟨k,hk,rfl⟩
  rw [bH] at hk;exact ⟨k+1,by omega,by omega,rfl⟩
 ·rintro ⟨k,h1,h2,rfl⟩
  exact ⟨k-1,bH.mpr (by omega),by rw [show k-1+1=k by omega]⟩
theorem fI(g:Good w)(D:Disc w R A){i:Nat}(hi:i<R.length){z:Nat}:z∈withinL w R i↔A (R.getD i 0,z)∧z≠R.getD (bS R i) 0:=by
 obtain ⟨m,y,F,e0,em,ew⟩:=mH g D hi;rw [ew,gI];have hl:=F.lt
 constructor
 ·rintro ⟨k,h1,h2,rfl⟩
  have:=(F.at_.Ii g D (k-1) (by omega)).2
  rw [show k-1+1=k by omega] at this
  refine ⟨this,λe=>?_⟩
  have:=F.inj k m (by omega) (by omega) (by rw [em];exact e)
  omega
 ·rintro ⟨a,ne⟩
  obtain ⟨k,h1,h2,e⟩:=F.between g D a;refine ⟨k,h1,?_,e⟩
  by_cases c:k=m
  ·subst c;exact absurd (e.symm.trans em) ne
  ·omega
theorem qo(g:Good w)(D:Disc w R A){i:Nat}(hi:i<R.length):R.getD ((i+1)%R.length) 0∉withinL w R i:=by
 rw [fI g D hi];rintro ⟨a,_⟩;rw [←iz D.nd hi] at a;exact (D.ring _ (aD hi)).2.2 a
theorem Cf(g:Good w)(D:Disc w R A){i j:Nat}(hi:i<R.length)(hj:j<R.length)(h:R.getD j 0∈withinL w R i):R.getD i 0∈withinL w R j:=by
 have h':=(fI g D hi).mp h;have n1:=qo g D hi;have hd:=D.dart _ h'.1;have c1:¬(R.getD i 0∈R∧R.getD j 0=ae R (R.getD i 0)):=λz=>n1 (by rw [←iz D.nd hi,←z.2];exact h)
 have c2:¬(R.getD j 0∈R∧R.getD i 0=ae R (R.getD j 0)):=λz=>h'.2 (df D.nd z.1 (aD (fG hi)) (by rw [←z.2,gL D.nd hi]))
 refine (fI g D hj).mpr ⟨(D.sym _ _ hd c1 c2).mp h'.1,λe=>c1 ⟨aD hi,?_⟩⟩;rw [e,gL D.nd hj]
open Classical in
open Classical in
end
section
variable {w:W} {R:List Nat} {A:Nat×Nat→Prop}
theorem Fn{R:List Nat}{i j:Nat}(cy:i<j)(hj:j<R.length):
  R=R.take i++R.getD i 0::((R.drop (i+1)).take (j-i-1)++R.getD j 0::R.drop (j+1)):=by
 have gi:R.getD i 0=R[i]'(by omega):=by rw [aS,bA (by omega)];rfl
 have gj:R.getD j 0=R[j]:=by rw [aS,bA hj];rfl
 have e1:R.getD j 0::R.drop (j+1)=(R.drop (i+1)).drop (j-i-1):=by
  rw [List.drop_drop,show i+1+(j-i-1)=j by omega,qv hj,gj]
 rw [e1,gO,gi,←qv (by omega),gO]
theorem Oe{R:List Nat}{i j:Nat}(cy:i<j)(hj:j<R.length):(R.take (j+1)).drop i=R.getD i 0::((R.drop (i+1)).take (j-i-1)++ [R.getD j 0]):=by
 have gi:R.getD i 0=R[i]'(by omega):=by rw [aS,bA (by omega)];rfl
 have gj:R.getD j 0=R[j]:=by rw [aS,bA hj];rfl
 rw [List.drop_take,qv (by omega:i<R.length),←gi,show j+1-i=(j-i-1)+1+1 by omega,List.take_succ_cons]
 congr 1
 rw [List.take_succ,qy,show i+1+(j-i-1)=j by omega,bA hj,gj]
 rfl
theorem Of{R:List Nat}{i j:Nat}(cy:i<j)(hj:j<R.length):R.drop j++R.take (i+1)=R.getD j 0::((R.drop (j+1)++R.take i)++ [R.getD i 0]):=by
 have gi:R.getD i 0=R[i]'(by omega):=by rw [aS,bA (by omega)];rfl
 have gj:R.getD j 0=R[j]:=by rw [aS,bA hj];rfl
 rw [qv hj,List.take_succ,bA (by omega:i<R.length),←gi,←gj]
 simp
theorem DZ{m:Nat}{y:Nat→Nat}:((List.range m).map λk=>y (k+1)).reverse=(List.range m).map λi=>y (m-i):=by
 refine List.ext_getElem (by simp) λk h1 h2=>?_
 have hk:k<m:=by simpa using h2
 rw [List.getElem_reverse];simp only [aK,ji,List.getElem_map,List.getElem_range,qx]
 congr 1
 omega
end
theorem qd{w:W}{i x:Nat}{r:List Nat}(h:i<w.length):row (w.set i r) x=if i=x then r else row w x:=by
 unfold row;rw [aS,sE,aS]
 by_cases e:i=x
 ·subst e;rw [if_pos rfl,if_pos h,if_pos rfl];rfl
 ·rw [if_neg e,if_neg e]
theorem uU{w:W}{x:Nat}{r:List Nat}:row (w++ [r]) x=if x=w.length then r else row w x:=by
 unfold row;rw [aS,aS]
 by_cases c:x<w.length
 ·rw [eB c,if_neg (by omega)]
 ·by_cases e:x=w.length
  ·subst e;rw [if_pos rfl];simp
  ·rw [if_neg e,n6 (by simp;omega),n6 (by omega)]
structure yG (w w':W) (R:List Nat) (f k:Nat):Prop where
 l:w'.length=w.length+1
 rv:row w' w.length=(R.take (f+1)).reverse
 r0:row w' (R.getD 0 0)=w.length::row w (R.getD 0 0)
 rk:∀i,1≤i→i≤k→row w' (R.getD i 0)=row w (R.getD i 0)++ [w.length]
 ro:∀x,x≠w.length→(∀i,i≤k→x≠R.getD i 0)→row w' x=row w x
theorem yG.start{w:W}{R:List Nat}{f:Nat}(h:R.getD 0 0<w.length):yG w ((w++ [(R.take (f+1)).reverse]).set (R.getD 0 0) (w.length::row w (R.getD 0 0))) R f 0:=by
 have hl:(w++ [(R.take (f+1)).reverse]).length=w.length+1:=by simp
 have rp:∀x,row ((w++ [(R.take (f+1)).reverse]).set (R.getD 0 0) (w.length::row w (R.getD 0 0))) x=_:=λx=>qd (x:=x) (by omega)
 refine ⟨by rw [kT];exact hl,?_,?_,λi h1 h2=>by omega,λx h1 h2=>?_⟩
 ·rw [rp,if_neg (by omega),uU,if_pos rfl]
 ·rw [rp,if_pos rfl]
 ·rw [rp,if_neg (λz=>h2 0 (bx _) z.symm),uU,if_neg h1]
theorem yG.step{w w':W}{R:List Nat}{f k:Nat}(M:yG w w' R f k)(nd:R.Nodup)(hf:f<R.length)(hk:k+1≤f)(h:R.getD (k+1) 0<w.length):yG w (w'.set (R.getD (k+1) 0) (row w' (R.getD (k+1) 0)++ [w.length])) R f (k+1):=by
 have ne:∀i,i≤k→R.getD (k+1) 0≠R.getD i 0:=λi hi e=>by
  have:=getD_inj nd (by omega) (by omega) e;omega
 have rp:∀x,row (w'.set (R.getD (k+1) 0) (row w' (R.getD (k+1) 0)++ [w.length])) x=_:=λx=>qd (x:=x) (by rw [M.l];omega)
 refine ⟨by rw [kT];exact M.l,?_,?_,λi h1 h2=>?_,λx h1 h2=>?_⟩
 ·rw [rp,if_neg (by omega)];exact M.rv
 ·rw [rp,if_neg (ne 0 (by omega))];exact M.r0
 ·by_cases c:i=k+1
  ·subst c
   rw [rp,if_pos rfl,M.ro _ (by omega) (λi hi=>ne i hi)]
  ·rw [rp,if_neg (ne i (by omega))];exact M.rk i h1 (by omega)
 ·rw [rp,if_neg (λz=>h2 (k+1) (bx _) z.symm)]
  exact M.ro x h1 λi hi=>h2 i (by omega)
theorem yG.fin{w w':W}{R:List Nat}{f:Nat}(M:yG w w' R f f)(f1:1≤f)(hf:f<R.length):Step w w' R f:=⟨M.l,f1,hf,M.rv,M.r0,M.rk,M.ro⟩
theorem bW.Pm{w:W}{R:List Nat}(G:bW w R){x:Nat}(h:x∈R):x<w.length:=bC (G.hd x h).1
theorem bW.rm{w:W}{R:List Nat}(G:bW w R):R.length≤w.length:=by
 have:=aM G.nd (m:=List.range w.length) λx hx=>bH.mpr (G.Pm hx)
 rw [ji] at this;exact this
end Wb
set_option maxHeartbeats 4000000
namespace PySem
namespace F
theorem Dy:typeLookup (.type "list_reverseiterator") "__len__"=pure none:=by rw [typeLookup_type,builtinLookup_eq_fast];kernel_rfl
theorem FU:typeLookup (.type "list_reverseiterator") "__length_hint__"=pure (some (.builtin "list_reverseiterator.__length_hint__")):=by rw [typeLookup_type,builtinLookup_eq_fast];kernel_rfl
end F
section
variable {prog:Program} {w:World} {A:Around} {s:Shared} {R:Result→Shared→Prop}
variable {I:Addr} {fp wr:List Addr} {G:Array GenState→Array GenState→Prop} {n:Nat} {P:Nat→Value→Prop} {St:Nat→Shared→Prop}
theorem Bc(W:WalksS prog w A.in1 I fp wr G n P St)(hT:∀i s,St i s→s.TypeIs (.ref I) "list_reverseiterator")(S:Addr)(res:Value)(c₀:Nat)(jG:St 0 s)(CP:S∉fp)(hI:I∈fp)
  (hS:s.heap.get? S=some {cls:= .type "list",data:= .seq #[] c₀})
  (hR:∀s' bV c',Moved (S::wr) G s s'→s'.heap.get? S=some {cls:= .type "list",dict:=none,data:= .seq bV c',slots:= #[]}→ItemsOf P bV n→R (.ok (.ret res)) s') (hn:n≤sizeLine):
  wpAny (model prog w) A.in1 (Builtin.List.listExtendWith (.ref S) (.ref I) res)
   (λfin s'=>match fin with| .done f=>R (.ok f) s'| .again c'=>c'.quiet=true∧codeAny (model prog w) A c' R s') (λe s'=>R (.error e) s') s:=by
 have Kq:S≠I:=λe=>CP (e▸hI);unfold Builtin.List.listExtendWith;refine wpAny_bind (wpAny_typeOf (hT 0 _ jG) ?_);have h1:Builtin.List.listSameRef (.ref S) (.ref I)=false:=by simp [Builtin.List.listSameRef,Kq]
 have h2:(Value.type "list_reverseiterator"==Value.type "list")=false:=by decide
 have h3:(Value.type "list_reverseiterator"==Value.type "tuple")=false:=by decide
 simp only [h1,h2,h3,Bool.or_false,kQ,if_false];refine wpAny_bind (W.self 0 _ _ _ jG ?_);refine wpAny_bind (wpAny_holding ?_);unfold Builtin.List.listLengthHint;refine wpAny_bind (wpAny_specialOf (hT 0 _ jG) F.Dy ?_);show wpAny _ A.in1 (specialOf (Value.ref I) (Str.ofString "__length_hint__")>>=_) _ _ _;refine wpAny_bind (wpAny_specialOf (hT 0 _ jG) F.FU ?_);generalize FR:("list_reverseiterator.__length_hint__":String)=KD
 wp_delta
 rw [show splitId KD=some ("list_reverseiterator","__length_hint__") from by subst FR;decide+kernel]
 subst FR;refine wpAny_bind (wpAny_isInstance (b:=true) (hT 0 _ jG) (by rw [isSubtype_type];kernel_rfl) ?_)
 refine wpAny_pure ?_;rw [if_neg (by decide)]
 exact wpAny_pure ⟨plainId_quiet F.plain_extend_loop _,codeAny_extend_loopS W hn _ CP _ n 0 _ _ _ rfl (cw _) jG hS (ItemsOf.nil P) hR⟩
theorem uy(W:WalksS prog w A.in1 I fp wr G n P St)(hT:∀i s,St i s→s.TypeIs (.ref I) "list_reverseiterator")(S:Addr)(jG:St 0 s)(CP:S∉fp)(hI:I∈fp)
  (hS:s.heap.get? S=some {cls:= .type "list",data:= .seq #[]})
  (hR:∀s' bV c',Moved (S::wr) G s s'→s'.heap.get? S=some {cls:= .type "list",dict:=none,data:= .seq bV c',slots:= #[]}→ItemsOf P bV n→R (.ok (.ret .none)) s') (hn:n≤sizeLine):
  wpAny (model prog w) A.in1 (Builtin.«list.__init__» ⟨[.ref S, .ref I],[]⟩)
   (λfin s'=>match fin with| .done f=>R (.ok f) s'| .again c'=>c'.quiet=true∧codeAny (model prog w) A c' R s') (λe s'=>R (.error e) s') s:=by
 show wpAny _ A.in1 (do let old ←Builtin.List.listItems (.ref S);Builtin.List.listUpdate (.ref S) (λ_=> #[]);letGo old.toList.reverse;Builtin.List.listExtendWith (.ref S) (.ref I) .none) _ _ s
 refine wpAny_bind ?_;unfold Builtin.List.listItems;refine wpAny_bind (wpAny_seqItems hS rfl (wpAny_pure ?_));show wpAny _ A.in1 (updateSeq S (λ_=> #[])>>=λ_=>letGo (#[]:Array Value).toList.reverse>>=λ_=>Builtin.List.listExtendWith (.ref S) (.ref I) .none) _ _ s;refine wpAny_bind (wpAny_updateSeq hS rfl ?_);have y8:=Heap.get?_update_self (Obj.mapSeq (λ_=>(#[]:Array Value))) hS rfl
 have Gh:∀b o,b≠S→s.heap.get? b=some o→(s.heap.update S (Obj.mapSeq (λ_=>(#[]:Array Value)))).get? b=some o:=
  λb o hb e=>(Heap.get?_update_other _ _ (Ne.symm hb)).trans e
 refine wpAny_bind (wpAny_letGo ?_);refine Bc W hT S .none _ (W.frame 0 s _ s.toks jG (bx _) λb hb o e=>Gh b o (λh=>CP (h▸hb)) e) CP hI y8 (λs' bV c' hm y6 pI=>?_) hn;exact hR s' bV c' (Moved.trans W.gtrans ((Moved.refl W.grefl).then_heap (bx _) λb o hb e=>Gh b o (λh=>hb (h▸cB)) e) hm) y6 pI
theorem tS{E:Value→Shared→Prop}{Q:Value→Shared→Prop}(W:WalksS prog w A.in1.in1 I fp wr G n P St)(hT:∀i s,St i s→s.TypeIs (.ref I) "list_reverseiterator")(jG:St 0 s)(Ku:∀b∈fp,b<s.heap.objs.size)(hI:I∈fp)
  (hQ:∀s' bV c',Moved (s.heap.objs.size::wr) G {s with heap:=s.heap.push {cls:= .type "list",data:= .seq #[]}} s'→
   s'.heap.get? s.heap.objs.size=some {cls:= .type "list",dict:=none,data:= .seq bV c',slots:= #[]}→ItemsOf P bV n→Q (.ref s.heap.objs.size) s') (hn:n≤sizeLine):
  wpAny (model prog w) A (call (.type "list") [.ref I]) Q E s:=by
 have CP:s.heap.objs.size∉fp:=λhm=>gP _ (Ku _ hm)
 refine callType_codes (Q₁:=λobj s₁=>obj= .ref s.heap.objs.size∧s₁={s with heap:=s.heap.push {cls:= .type "list",data:= .seq #[]}}) F.called_list (F.typeCall_list_1 _) F.entry_list_init
  (code_list_new _ ⟨rfl,rfl⟩) λobj s₁ Sv=>?_
 obtain ⟨rfl,rfl⟩:=Sv;have hS:(s.heap.push {cls:= .type "list",data:= .seq #[]}).get? s.heap.objs.size=some {cls:= .type "list",data:= .seq #[]}:=Heap.get?_push_size _ rfl;refine ⟨⟨_,hS,rfl⟩,F.args_list_init_2 _ _,uy W hT _ (W.frame 0 s _ s.toks jG (bx _) λb _ o e=>Heap.get?_push_of_some _ e) CP hI hS (λs' bV c' hm y6 pI=>?_) hn⟩;exact ⟨rfl,hQ s' bV c' hm y6 pI⟩
end
end PySem
namespace L2
open PySem PySem.Spec PyProof.Rows
section
variable {X:Cx} {Z:DC} {a b c e:Expr} {ta te:aT} {t:iC} {pos:Pos}
def GG(K:PySem.W.Frag)(ta:TA):TE:=λσ H Q=>ta σ H λvs H1=>∃l xs,vs= [.ref l]∧cp K H1 l xs∧∀q,H1 q=none→Q (.ref q) (upd H1 q (.lst xs.reverse))
theorem BJ{ta:TA}{p p2 nT:Pos}(hc:X.calm=true)(Ow:Gl X "list")(FW:X.mg "list"=none)(Ox:Gl X "reversed")(C1:X.mg "reversed"=none)(ha:PA X [a] ta)
  (hs:starEach [.Call (.Name "reversed" p2) [a] [] nT] X.env=(false,eval (.Call (.Name "reversed" p2) [a] [] nT) X.env)::starEach [] X.env:=by rfl) (eU:(backTo pos (starEach [] X.env)).any (·.1)=false:=by rfl)
  (iI:starEach [a] X.env=(false,eval a X.env)::starEach [] X.env:=by rfl) (Ib:(backTo nT (starEach [] X.env)).any (·.1)=false:=by rfl):
  PE X (.Call (.Name "list" p) [.Call (.Name "reversed" p2) [a] [] nT] [] pos) (GG X.K ta):=by
 intro pins s σ H Q I h;refine wpAny_Call_Name_kw (ic I Ow FW lJ ?_);refine PyProof.Rows.callWith_type1 ?_ hs eU;rw [hs];show wpAny _ _ (spliced ((false,eval _ X.env)::backTo pos (starEach [] X.env))) _ _ s;refine Calls.spliced_cons ?_;refine wpAny_Call_Name_kw (ic I Ox C1 yL ?_);refine PyProof.Rows.callWith_type1 (thn (ha nT pins s σ H _ I h) λus s1 ⟨vs,H1,I1,r1,q1⟩=>?_) iI Ib;obtain ⟨l,xs,e,hl,q⟩:=q1;subst e;obtain ⟨u,rfl,ru⟩:=r1.one;cases ru;obtain ⟨its,rv,p,hz⟩:=I1.list hl;have hlen:=rv.length;refine call_reversed_list p.isList ?_;refine Calls.spliced_nil ?_;have bN:l<s1.heap.objs.size:=by obtain ⟨o,ho,_⟩:=p.isList;exact Heap.lt_size ho
 have C2:l≠s1.heap.objs.size:=bQ bN;have W:=(Walks.listRev (prog:=X.prog) (w:=X.w) (A:=X.A.in1.in1) (I.ok.hd hc) s1.heap.objs.size l C2 its.toArray).toS;have hit:(s1.heap.push (revObj l ((its.toArray.size:Int)-1))).IsRevIter s1.heap.objs.size l ((its.toArray.size:Int)-1-((0:Nat):Int)):=⟨_,Heap.get?_push_size _ rfl,rfl,by simp [revObj]⟩
 have XD:(s1.heap.push (revObj l ((its.toArray.size:Int)-1))).IsList l its.toArray:=p.isList.at λo e=>Heap.get?_push_of_some _ e;have eD:(s1.heap.push (revObj l ((its.toArray.size:Int)-1))).objs.size=s1.heap.objs.size+1:=by simp [Heap.push]
 refine tS W (λi s st=>st.2.1.typeIs) ⟨cw _,hit,XD⟩ (λb hb=>?_) (by simp) (λs' bV c' hm y6 pI=>?_) (by simpa [←hlen] using hz)
 ·rw [show ({s1 with heap:=s1.heap.push (revObj l ((its.toArray.size:Int)-1))}:Shared).heap.objs.size=s1.heap.objs.size+1 from eD]
  have hb:b=s1.heap.objs.size∨b=l:=by simpa using hb
  rcases hb with rfl|rfl
  ·exact Nat.lt_succ_self _
  ·exact yD bN
 ·rw [Moved.eq_with hm]
  have kk:∀b o,s1.heap.get? b=some o→s'.heap.get? b=some o:=λb o e=>by
   have hb:=Heap.lt_size e;refine hm.heap b o (λpL=>?_) (Heap.get?_push_of_some _ (Heap.get?_push_of_some _ e));have pL:b=(s1.heap.push (revObj l ((its.toArray.size:Int)-1))).objs.size∨b=s1.heap.objs.size:=by simpa using pL
   rw [eD] at pL
   rcases pL with rfl|rfl
   ·exact absurd hb (Nat.not_lt.mpr (mQ _))
   ·exact absurd hb (gP _)
  rw [show ({s1 with heap:=s1.heap.push (revObj l ((its.toArray.size:Int)-1))}:Shared).heap.objs.size=s1.heap.objs.size+1 from eD] at y6 ⊢
  refine ⟨.ref (s1.heap.objs.size+1),_,I1.laid kk (mQ _) (o:= .lst xs.reverse) ⟨by rw [qx];exact hz,bV.toList,c',?_,by simpa using y6⟩,rfl,q _ (I1.hok.fresh (mQ _))⟩
  refine Vals.of_get (by simp [pI.1,hlen]) λk x w hx hw=>?_
  have hk:k<xs.length:=by
   have:=(eO.mp hx).1
   simpa using this
  rw [List.getElem?_reverse hk] at hx;obtain ⟨u,hu,ru⟩:=rv.get hx
  have:its.toArray[its.toArray.size-1-k]? =some w:=pI.2 k w (by rw [←f6];exact hw)
  have e2:its.toArray.size-1-k=xs.length-1-k:=by simp [hlen]
  rw [e2] at this
  have:u=w:=by
   have h1:its[xs.length-1-k]? =some w:=by simpa using this
   rw [hu] at h1;exact Option.some.inj h1
  rw [←this];exact ru
def FA(t:iC):aT:=λρ P=>t ρ λds=>match ds with
 | [.lst l]=>P (.lst l.reverse)
 |_=>False
theorem AZ{p p2 nT:Pos}(hc:X.calm=true)(Ow:Gl X "list")(FW:X.mg "list"=none)(Ox:Gl X "reversed")(C1:X.mg "reversed"=none)(ha:DA Z X [a] t)
  (hs:starEach [.Call (.Name "reversed" p2) [a] [] nT] X.env=(false,eval (.Call (.Name "reversed" p2) [a] [] nT) X.env)::starEach [] X.env:=by rfl) (eU:(backTo pos (starEach [] X.env)).any (·.1)=false:=by rfl)
  (iI:starEach [a] X.env=(false,eval a X.env)::starEach [] X.env:=by rfl) (Ib:(backTo nT (starEach [] X.env)).any (·.1)=false:=by rfl):
  DE Z X (.Call (.Name "list" p) [.Call (.Name "reversed" p2) [a] [] nT] [] pos) (FA t):=by
 refine (BJ hc Ow FW Ox C1 ha hs eU iI Ib).imp ?_;rintro σ H Q ⟨G,ρ,P,s,en,h,q⟩;refine ⟨G,ρ,_,s,en,h,λds hd vs G1 H1 x1 dv=>?_⟩;cases dv with
 |nil=>exact hd.elim
 |cons a as=>
  cases as with
  |cons _ _=>cases a<;>exact hd.elim
  |nil=>
   cases a<;>first|exact hd.elim|skip
   rename_i p xs ds ha e
   exact ⟨_,xs,rfl,cp.of (x1.sub _ _ ha),λp hn=>q _ hd _ _ _ (x1.trans (.new x1.sub hn)) (.lst ax (e.rev.mono (aQ (x1.sub.free hn) _)))⟩
end
section
variable {Z:DC} {X:Cx} {md:List Nat} {rn:Nat} {a b e k:Expr} {pos:Pos} {ta tb te tk:aT} {t:lA}
def RD(ta tb:aT):lA:=λρ P=>ta ρ λd1=>∃l1,d1= .lst l1∧tb ρ λd2=>∃l2,d2= .lst l2∧l1.length+l2.length≤sizeLine∧P (l1++l2)
theorem tm(ha:DE Z X a ta)(hb:DE Z X b tb):DF Z X 1 (.BinOp a .Add b pos) (RD ta tb):=by
 refine (DQ zE ha hb).imp ?_;rintro σ H Q ⟨G,ρ,P,s,e,h,q⟩;refine ⟨G,ρ,_,s,e,h,?_⟩;rintro _ ⟨l1,rfl,h⟩ v1 G1 H1 x1 CF;refine ⟨G1,ρ,_,x1.sub,e.mono x1.gg,h,?_⟩;rintro _ ⟨l2,rfl,hz,hp⟩ v2 G2 H2 x2 yZ;obtain ⟨p1,JZ,rfl,h1,e1⟩:=CF.iL;obtain ⟨p2,VA,rfl,h2,e2⟩:=yZ.iL;have NP:=e1.mono x2.gg;have x:=x1.trans x2;refine ⟨_,_,_,_,rfl,rfl,x2.hh _ _ (x1.sub _ _ h1),x2.sub _ _ h2,by rw [e1.length,e2.length];exact hz,λp h8=>?_⟩
 obtain ⟨o1,o2,o3⟩:=pW x h8 (NP.append e2);exact q _ hp _ _ _ _ (x.side h8) o1 o2 o3
variable {tg iter elt:Expr} {ifs:List Expr} {scope:Scope} {NC:List Str} {src:List (Option Nat)} {wi:gy} {g:di} {tt:cU}
theorem NL(hc:X.calm=true)(c:bY X scope)(dZ:cP scope X.N src NC)(hi:DI Z X tg iter wi)
  (hg:∀ex s H,DG Z (cc X scope NC ex s H) tg g) (ht:∀ex s H,vN Z (cc X scope NC ex s H) ifs tt) (he:∀ex s H,DE Z (cc X scope NC ex s H) elt te)
  (hs:∀x,foldedSetIterable iter X.env x=pure x:=by intro _;rfl):DF Z X 1 (.ListComp elt [⟨tg,iter,ifs,0⟩] scope pos) (NT wi g tt te src):=(I0 hc c dZ hi hg ht he hs).imp Bz
variable {B:Bs} {ρ:DN} {σ:St} {H G:Hp} {fp:Nat→List Addr}
theorem SIx.W7{P:List D→Prop}{Q:VK}(S:SIx Z B md ρ σ H G fp)(h:t ρ P)
  (hq:∀ds,P ds→ds.all fi=true∧∀v G' H',SIx Z B md ρ σ H' G' fp→Ext G H G' H'→Dv Z G' v (.lst ds)→Q v H'):ux Z 1 t σ H Q:=by
 refine ⟨H,ρ,P, .refl _,S.HF,h,?_⟩;intro ds hd v f G' H' x o nd nw;obtain ⟨Kt,k⟩:=hq ds hd;obtain ⟨a,xs,pj,pF,rfl,e1,ha,Xx,ol⟩:=o.lst;cases e1;obtain ⟨dv,rfl⟩:=ol.flat;have hb:H a=none:=(nw a (by rw [Xx];simp)).1
 have hg:G a=none:=S.ex.sub.free hb
 have x2:Ext G H (upd G a (.lst xs)) H':=by
  refine ⟨aQ hg _,λb o e=>?_,x.hh,λb h1 h2=>?_⟩
  ·by_cases z:b=a
   ·subst z
    rw [ax] at e;rw [←e];exact ha
   ·rw [aF z] at e
    exact x.hh _ _ (S.ex.sub _ _ e)
  ·rw [aF (λz=>h1 (by rw [z];exact hb))];exact h2
 exact k _ _ _ (S.grow x2) x2 (.lst ax (dv.flat Kt))
def Hs(i:Nat)(tk:aT)(t:lA):dW:=λE ρ=>t ρ λd=>d.all fi=true∧∃ds,ρ[i]? =some (some (.lst ds))∧tk ρ λkk=>∃k j,kk= .int k∧oF ds.length k=some j∧E.nx (ρ.set i (some (.lst (ds.set j (.lst d)))))
theorem ot(i:Nat){x:Str}{px ps:Pos}(hk:DE Z X k tk)(he:DF Z X 1 e t)(hm:md.getD i 0=1:=by rfl)(hi:X.N[i]? =some x:=by rfl)(hv:sH X.env.scope x:=by first|exact Or.inl rfl|exact Or.inr (Or.inl rfl) |exact Or.inr (Or.inr rfl))(hd:(x==("__debug__":Str))=false:=by decide)(fT:(x==("__classdict__":Str))=false:=by decide)
  (ha:∀v,assign (.Subscript (.Name x px) k ps) X.env v=(do
   let ov ←holding [v] (eval (.Name x px) X.env)
   let iv ←holding [v,ov] (eval k X.env)
   standAt ps
   holding [v,ov,iv] (setItem ov iv v)
   release [v,ov,iv] []):=by intro _;rfl)
  (hs:swapsWithSole [.Subscript (.Name x px) k ps] e pos.line X.env=pure false:=by rfl) (hw:swappedStores [.Subscript (.Name x px) k ps] e X.env=pure none:=by rfl)
  (h1:(assignEach [.Subscript (.Name x px) k ps] X.env).map (·.2)= [assign (.Subscript (.Name x px) k ps) X.env]:=by rfl):DSt Z X md rn (.Assign [.Subscript (.Name x px) k ps] e pos) (Hs i tk t):=by
 refine (zH he (E7 (pv i hi hv hd fT) hk set_list ha) hs hw h1).imp ?_;rintro D σ H ⟨B,ρ,E,⟨G,fp,S⟩,h,M⟩;refine S.W7 h λd hd=>⟨hd.1,λv G' H' S' x dv=>?_⟩;obtain ⟨_,ds,h1,h⟩:=hd;obtain ⟨l,xs,_,_,e2,e3,_⟩:=S'.one hm h1;refine ⟨_,e2,S'.ev true h ?_⟩;rintro _ ⟨k,j,rfl,hj,h3⟩;refine ⟨rfl,λv1 G1 H1 S1 x1 CF=>?_⟩;cases CF;obtain ⟨l',oX,pj,e1,iX,sM,bo,put⟩:=S1.one hm h1;cases e1;rw [e2] at iX;cases iX;exact ⟨l,oX,k,j,rfl,rfl,sM,by rw [bo.length];exact hj,M.nx _ h3 _ _ ⟨G1,fp,put _ _ (bo.set (dv.mono x1.gg) j)⟩⟩
end
end L2
namespace oh
open PySem L2 Wb
variable {P:Program} {w:World} {mg:Str→Option Value} {base:Heap} {Z:DC} (T:Txt Z mg)
def Gy:dD:=λds P=>∃(ns:List Int)(k:Nat),ds= [.jW ns,af k]∧∀v:Int,P (.int v)
theorem eW:FnOk P w Z.K mg base cO 1 T.d__law_cell_at.f T.d__law_cell_at.fd ["_law_script","_law_k"] (aV Z Gy):=by
 have nd:=jU.nd;refine br T.d__law_cell_at.F jU [0,0] (by decide) (λds R h=>by obtain ⟨_,_,rfl,_⟩:=h;rfl) (λbF A outer s H E ds R hr h=>?_)
 have hu:=hr.units
 refine ⟨_,(ah (bX (bp qW (aa 1) (ay aP rfl T.B.len aO (ab (aa 0) ag)) (bw _)) (aq (aJ (bJ (aa 0) (aa 1)))) bg)
   (aq (aJ au))),?_⟩
 obtain ⟨ns,k,rfl,q⟩:=h;refine ⟨_,rfl,_,rfl,?_⟩;refine ⟨_,rfl,eo (λe=>?_) (λe=>?_)⟩
 ·have hk:k<ns.length:=by
   have:=of_decide_eq_true e
   omega
  exact ⟨_,rfl,_,rfl,_,AN (bA hk),q _⟩
 ·exact q 0
def JG:dD:=λds P=>∃(c:Int),ds= [.int c]∧∀v:Int,P (.int v)
theorem gU(a b:Int)(h:0<b):0≤a%b∧a%b<b:=⟨Int.emod_nonneg _ (by omega),Int.emod_lt_of_pos _ h⟩
theorem Kn{i j:Int}{P:D→Prop}{ρ:DN}(h:P (.bl (decide (i=j)))):dC (.int j) ρ (λb=>yT (.int i) b P):=tY h
theorem fX:FnOk P w Z.K mg base cO 1 T.d__law_drawn.f T.d__law_drawn.fd ["_law_cell"] (aV Z JG):=by
 have nd:=mw.nd;refine br T.d__law_drawn.F mw [0,0] (by decide) (λds R h=>by obtain ⟨_,rfl,_⟩:=h;rfl) (λbF A outer s H E ds R hr h=>?_)
 have hu:=hr.units
 refine ⟨_,(ah (bX (DW.dt (t8 (bp (jr hu) (aa 0) au (bw _)) (tx (DW.dt (EG (bp (jr hu) (aB cJ (aa 0) au) au (bw _)) (A7 (bp zz (aa 0) (aB EX au au) (bw _)))))))) (aq (aJ (aB fV (aa 0) au))) bg)
   (ah (aE false 1 nd (aB cJ (aB bO (aB tE (aB cJ (aa 0) au) au) au) au))
   (ah (aE false 1 nd (aB cJ (aB bO (aB tE (aa 1) (aa 1)) au) au))
   (aq (aJ (aB fV (aB EX (aB bO (aa 1) au) au) au)))))),?_⟩
 obtain ⟨c,rfl,q⟩:=h;have m1:=gU (c%2147483629*48271+7919) 2147483647 (by decide)
 have m2:=gU ((c%2147483629*48271+7919)%2147483647*((c%2147483629*48271+7919)%2147483647)+104729) 2147483629 (by decide)
 have fin:∀v:Int,R (.int v):=q;refine ⟨_,rfl,Kn ⟨_,rfl,eo (λ_=>cM ⟨_,rfl,⟨by decide,by decide⟩,q _⟩) (λ_=>?_)⟩⟩
 refine ⟨_,rfl,(by show (0:Int)<2;decide),Kn ⟨_,rfl,eo (λ_=>⟨_,rfl,⟨by decide,by decide,by decide⟩,_,rfl,eo (λ_=>⟨_,rfl,⟨by decide,by decide⟩,q _⟩) (λ_=>?_)⟩) (λ_=>cF ?_)⟩⟩
 ·refine ⟨_,rfl,(by show (0:Int)<2147483629;decide), .inr ⟨by decide,by decide⟩,(by show (0:Int)<2147483647;decide),trivial,?_⟩
  refine ⟨_,rfl,_,rfl, .inl ⟨by dsimp only;omega,by dsimp only;omega⟩,(by show (0:Int)<2147483629;decide),trivial,?_⟩
  exact ⟨_,rfl,⟨by decide,by decide,by dsimp only;omega⟩,⟨by decide,by decide⟩,q _⟩
 ·refine ⟨_,rfl,(by show (0:Int)<2147483629;decide), .inr ⟨by decide,by decide⟩,(by show (0:Int)<2147483647;decide),trivial,?_⟩
  refine ⟨_,rfl,_,rfl, .inl ⟨by dsimp only;omega,by dsimp only;omega⟩,(by show (0:Int)<2147483629;decide),trivial,?_⟩
  exact ⟨_,rfl,⟨by decide,by decide,by dsimp only;omega⟩,⟨by decide,by decide⟩,q _⟩
theorem rA(w:W)(i:Nat)(r:List Nat):(w.map ao).set i (ao r)=(w.set i r).map ao:=by rw [List.map_set]
theorem eH{α:Type}(l:List α)(k:Nat)(h:k≤l.length):cutD l (some (k:Int)) none=l.drop k:=by
 unfold cutD
 have e1:HT.bD l.length 0 (some (k:Int))=k:=by
  simp only [HT.bD]
  split<;>omega
 have e2:HT.bD l.length l.length none=l.length:=rfl;rw [e1,e2];exact vA (by simp)
theorem gJ{w:W}{p:Nat}(h:p<w.length):gD (w.map ao) (p:Int)=some (ao (row w p)):=ik (vc h)
theorem fv{ns:List Nat}{p:Nat}(h:p<ns.length):gD (ns.map af) (p:Int)=some (af (ns.getD p 0)):=ik (by rw [fc,aS,bA h];rfl)
variable {P:Program} {w:World} {mg:Str→Option Value} {base:Heap} {Z:DC} (T:Txt Z mg)
def JH:dD:=λds P=>∃(n:Int),ds= [.int n]∧∀w R,bW w R→3≤w.length→w.length≤14→P (.tup [aN w,ao R])
theorem uH:FnOk P w Z.K mg base cO 1 T.d__law_grown.f T.d__law_grown.fd ["_law_number"] (aV Z JH):=by
 have nd:=mz.nd;refine br T.d__law_grown.F mz [0,1,0,0,0,0,0,0,0] (by decide) (λds R h=>by obtain ⟨_,rfl,_⟩:=h;rfl) (λbF A outer s H E ds R hr h=>?_)
 have hu:=hr.units
 refine ⟨_,(ah (tw 1 nd (tq (ab (cx (ab au (ab au ag))) (ab (cx (ab au (ab au ag))) (ab (cx (ab au (ab au ag))) ag)))))
   (ah (aE false 2 nd (cx (ab au (ab au (ab au ag)))))
   (ah (aE false 3 nd (aB bO au (aB cJ (aa 0) au)))
   (ah (aE false 0 nd (aB fV (aa 0) au))
   (ah (pz rfl PassesOwn.never (CA rfl T.B.range (ab au (ab (aa 3) ag))) (aL 4 nd) (ah (aE false 5 nd (aB cJ (aa 0) (ay aP rfl T.B.len aO (ab (aa 2) ag))))
   (ah (aE false 6 nd (aB bO au (aB cJ (aB fV (aa 0) (ay aP rfl T.B.len aO (ab (aa 2) ag))) (aB ie (ay aP rfl T.B.len aO (ab (aa 2) ag)) au))))
   (ah (aE false 0 nd (aB fV (aa 0) (aB tE (ay aP rfl T.B.len aO (ab (aa 2) ag)) (aB ie (ay aP rfl T.B.len aO (ab (aa 2) ag)) au))))
   (ah (aE false 2 nd (aB bO (bM (aa 2) (bG (aa 5)) b7) (bM (aa 2) b7 (bG (aa 5)))))
   (ah (aE false 7 nd (bM (aa 2) b7 (bG (aB bO (aa 6) au))))
   (ah (EE false 1 (AZ rfl rfl T.B.list rfl T.B.reversed (ab (aa 7) ag)))
   (ah (ot 1 (bJ (aa 7) au) (tm (cx (ab (aa 4) ag)) (bJ (aa 1) (bJ (aa 7) au))))
   (ah (fS rfl PassesOwn.never (cE (bM (aa 7) (bG au) b7)) (aL 8 nd) (aq (ot 1 (aa 8) (tm (bJ (aa 1) (aa 8)) (cx (ab (aa 4) ag))))))
   (aq (aE false 2 nd (aB bO (cx (ab (bJ (aa 7) au) (ab (aa 4) ag))) (bM (aa 2) (bG (aa 6)) b7)))))))))))))
   (aq (aJ (eT (ab (aa 1) (ab (aa 2) ag)))))))))),?_⟩
 obtain ⟨n,rfl,q⟩:=h;refine ⟨by show 2≤sizeLine;decide,by show 2≤sizeLine;decide,by show 2≤sizeLine;decide,by show 3≤sizeLine;decide,?_⟩
 refine ⟨by show 3≤sizeLine;decide,trivial,?_⟩
 refine ⟨_,rfl,(by show (0:Int)<12;decide),trivial,?_⟩
 refine ⟨_,rfl,⟨by decide,by decide⟩,trivial,?_⟩
 have m12:=gU n 12 (by decide)
 refine ⟨_,rfl,⟨by decide,by decide,by show-(2^62)≤3+n%12;omega,by show 3+n%12<2^62;omega⟩,?_⟩
 rw [show (3+n%12-3).toNat=(n%12).toNat by omega]
 refine Be (λj ρ=>∃(x:Int)(w:W)(R:List Nat)(o4 o5 o6 o7 o8:Option D),ρ= [some (.int x),some (aN w),some (ao R),some (.int (3+n%12)),o4,o5,o6,o7,o8]∧bW w R∧w.length=3+j) ?_ ?_ ?_
 ·exact ⟨_,[[1,2],[2,0],[0,1]],[0,1,2],_,_,_,_,_,rfl,y4,rfl⟩
 ·rintro j _ hj ⟨x,w',R',o4,o5,o6,o7,o8,rfl,Gr,hl⟩ A hA
  have h3:=Gr.len;have aae:=Gr.rm;have lR:(R'.map af).length=R'.length:=aK _;have e0:(0:Int)<((R'.map af).length:Int):=by rw [lR];omega
  have e1:(0:Int)<((R'.map af).length:Int)-1:=by rw [lR];omega
  have e2:((R'.map af).length:Int)≤14:=by rw [lR];omega
  refine ⟨_,rfl,_,rfl,e0,trivial,?_⟩;refine ⟨_,rfl,_,rfl,⟨e0,by omega⟩,_,rfl,e1,trivial,?_⟩
  have m1:=gU x ((R'.map af).length:Int) e0;have m2:=gU (x / ((R'.map af).length:Int)) (((R'.map af).length:Int)-1) e1;generalize Og:x%((R'.map af).length:Int)=at_ at m1;generalize RY:x / ((R'.map af).length:Int)%(((R'.map af).length:Int)-1)=fr at m2;obtain ⟨a,rfl⟩:∃a:Nat,at_=(a:Int):=⟨at_.toNat,by omega⟩
  obtain ⟨f',rfl⟩:∃f:Nat,fr=(f:Int):=⟨fr.toNat,by omega⟩
  rw [lR] at m1 m2;have p1:(0:Int)<((R'.map af).length:Int)*(((R'.map af).length:Int)-1):=Int.mul_pos e0 e1;have p2:((R'.map af).length:Int)*(((R'.map af).length:Int)-1)≤14*13:=Int.mul_le_mul e2 (by omega) (by omega) (by decide)
  refine ⟨_,rfl,_,rfl,_,rfl, .inl ⟨by omega,by omega⟩,⟨p1,(show ((R'.map af).length:Int)*(((R'.map af).length:Int)-1)<1073741824 by omega)⟩,trivial,?_⟩
  clear p1 p2;refine (?_:t4 _ _ _ [some (.int (x / (((R'.map af).length:Int)*(((R'.map af).length:Int)-1)))),some (aN w'),some (ao R'),some (.int (3+n%12)),some (.int (3+(j:Int))),some (.int (x%((R'.map af).length:Int))),some (.int (1+x / ((R'.map af).length:Int)%(((R'.map af).length:Int)-1))),o7,o8]);rw [Og,RY];generalize x / (((R'.map af).length:Int)*(((R'.map af).length:Int)-1))=x2;have ca:cutD (R'.map af) (some (a:Int)) none=(R'.drop a).map af:=by rw [eH _ _ (by rw [lR];omega),mP]
  have cb:cutD (R'.map af) none (some (a:Int))=(R'.take a).map af:=by rw [eJ _ _ (by rw [lR];omega),mO]
  have AI:bW w' (R'.drop a++R'.take a):=by
   have:=Gr
   rw [←gO a R'] at this;exact this.D3
  have Tb:(R'.drop a++R'.take a).length=R'.length:=by rw [b9,fw,cm];omega
  have nH:(cutD (R'.map af) (some (a:Int)) none).length+(cutD (R'.map af) none (some (a:Int))).length≤sizeLine:=by
   rw [ca,cb,aK,aK];exact small (by rw [b9] at Tb;omega)
  have er:(.lst (cutD (R'.map af) (some (a:Int)) none++cutD (R'.map af) none (some (a:Int))):D)=ao (R'.drop a++R'.take a):=by rw [ca,cb];unfold ao;rw [dr]
  refine ⟨_,rfl,_,rfl,_,rfl,_,rfl,nH,trivial,?_⟩;refine (?_:t4 _ _ _ [some (.int x2),some (aN w'),some (.lst (cutD (R'.map af) (some (a:Int)) none++cutD (R'.map af) none (some (a:Int)))),some (.int (3+n%12)),some (.int (3+(j:Int))),some (.int (a:Int)),some (.int (1+(f':Int))),o7,o8]);rw [er];clear er ca cb nH;generalize R'.drop a++R'.take a=R1 at AI Tb;have l1:(R1.map af).length=R1.length:=aK _
  have ct:cutD (R1.map af) none (some ((1:Int)+(f':Int)+1))=(R1.take (f'+1+1)).map af:=by
   rw [show (1:Int)+(f':Int)+1=((f'+1+1:Nat):Int) by omega,eJ _ _ (by rw [l1];omega),mO]
  refine ⟨_,rfl,_,rfl,trivial,?_⟩;refine (?_:t4 _ _ _ [some (.int x2),some (aN w'),some (ao R1),some (.int (3+n%12)),some (.int (3+(j:Int))),some (.int (a:Int)),some (.int (1+(f':Int))),some (.lst (cutD (R1.map af) none (some ((1:Int)+(f':Int)+1)))),o8]);rw [ct];have F8:(R1.take (f'+1+1)).length=f'+2:=by rw [cm];omega
  have la:((R1.take (f'+1+1)).map af).length=f'+2:=by rw [aK];exact F8
  have lw:(w'.map ao).length=3+j:=by rw [aK];exact hl
  refine ⟨_,rfl,_,rfl,trivial,kB (by rw [lw];omega),?_⟩
  have ea:(.lst (w'.map ao++ [.lst ((R1.take (f'+1+1)).map af).reverse]):D)=aN (w'++ [(R1.take (f'+1+1)).reverse]):=by
   unfold aN ao;rw [dr,←List.map_reverse];rfl
  refine (?_:t4 _ _ _ [some (.int x2),some (.lst (w'.map ao++ [.lst ((R1.take (f'+1+1)).map af).reverse])),some (ao R1),some (.int (3+n%12)),some (.int (3+(j:Int))),some (.int (a:Int)),some (.int (1+(f':Int))),some (ao (R1.take (f'+1+1))),o8]);rw [ea];clear ea;have UD:R1.getD 0 0<w'.length:=AI.Pm (aD (by omega))
  have g0:(R1.take (f'+1+1)).getD 0 0=R1.getD 0 0:=by rw [aS,sA (by omega),←aS]
  have a0:gD ((R1.take (f'+1+1)).map af) (0:Int)=some (af (R1.getD 0 0)):=by
   have:=fv (ns:=R1.take (f'+1+1)) (p:=0) (by omega)
   rw [g0] at this;exact this
  have lw1:(w'++ [(R1.take (f'+1+1)).reverse]).length=w'.length+1:=by simp
  have a1:=gJ (w:=w'++ [(R1.take (f'+1+1)).reverse]) (p:=R1.getD 0 0) (by omega)
  rw [uU,if_neg (by omega)] at a1
  have rl0:=iP AI.g (R1.getD 0 0);have ev:(3:Int)+(j:Int)=((w'.length:Nat):Int):=by omega
  refine ⟨_,rfl,by show 1≤sizeLine;decide,_,rfl,_,rfl,_,rfl,_,a0,_,a1,_,rfl,small (by rw [aK];show 1+_≤1000;omega),?_,_,rfl,_,rfl,_,a0,_,R1.getD 0 0,rfl,jI (by rw [aK];omega),?_⟩
  ·rw [List.all_append,ck];rfl
  have M0:=yG.start (w:=w') (R:=R1) (f:=f'+1) UD
  have es:(.lst (((w'++ [(R1.take (f'+1+1)).reverse]).map ao).set (R1.getD 0 0) (.lst ([.int ((3:Int)+(j:Int))]++(row w' (R1.getD 0 0)).map af))):D)=aN ((w'++ [(R1.take (f'+1+1)).reverse]).set (R1.getD 0 0) (w'.length::row w' (R1.getD 0 0))):=by
   rw [ev];unfold aN;rw [←rA];rfl
  refine (?_:t4 _ _ _ [some (.int x2),some (.lst (((w'++ [(R1.take (f'+1+1)).reverse]).map ao).set (R1.getD 0 0) (.lst ([.int ((3:Int)+(j:Int))]++(row w' (R1.getD 0 0)).map af)))),some (ao R1),some (.int (3+n%12)),some (.int (3+(j:Int))),some (.int (a:Int)),some (.int (1+(f':Int))),some (ao (R1.take (f'+1+1))),o8]);rw [es];clear es a1
  have cd:cutD ((R1.take (f'+1+1)).map af) (some (1:Int)) none=((R1.take (f'+1+1)).drop 1).map af:=by
   have:=eH ((R1.take (f'+1+1)).map af) 1 (by rw [la];omega)
   rw [mP];exact this
  have ld:((R1.take (f'+1+1)).drop 1).length=f'+1:=by rw [fw,F8];omega
  refine ⟨_,rfl,?_⟩;refine (?_:lP _ _ _ (cutD ((R1.take (f'+1+1)).map af) (some (1:Int)) none) _);rw [cd];refine dJ (λk ρ=>∃(w2:W)(o8:Option D),ρ= [some (.int x2),some (aN w2),some (ao R1),some (.int (3+n%12)),some (.int (3+(j:Int))),some (.int (a:Int)),some (.int (1+(f':Int))),some (ao (R1.take (f'+1+1))),o8]∧yG w' w2 R1 (f'+1) k) ⟨_,_,rfl,M0⟩ ?_ ?_
  ·rintro k d _ hd ⟨w2,p8,rfl,M⟩ A' CO
   obtain ⟨y,hy,rfl⟩:=fu hd
   have hk:k<f'+1:=by
    have:=(eO.mp hy).1
    omega
   have ey:y=R1.getD (k+1) 0:=by
    rw [qy,sA (by omega)] at hy
    rw [aS,Nat.add_comm k 1,hy];rfl
   subst ey;have ylt:R1.getD (k+1) 0<w'.length:=AI.Pm (aD (by omega))
   have l2:=M.l;have a2:=gJ (w:=w2) (p:=R1.getD (k+1) 0) (by omega)
   have rl:(row w2 (R1.getD (k+1) 0)).length≤14:=by
    rw [M.ro _ (by omega) (λi hi e=>by have:=getD_inj AI.nd (by omega) (by omega) e;omega)]
    have:=iP AI.g (R1.getD (k+1) 0)
    omega
   refine ⟨_,rfl,_,rfl,_,a2,_,rfl,_,rfl,by show 1≤sizeLine;decide,_,rfl,small (by rw [aK];show _+1≤1000;omega),?_,_,rfl,_,rfl,_,R1.getD (k+1) 0,rfl,jI (by rw [aK];omega),?_⟩
   ·rw [List.all_append,ck];rfl
   refine CO _ ⟨w2.set (R1.getD (k+1) 0) (row w2 (R1.getD (k+1) 0)++ [w'.length]),some (af (R1.getD (k+1) 0)),?_,M.step AI.nd (by omega) (by omega) ylt⟩
   have HI:(.lst ((w2.map ao).set (R1.getD (k+1) 0) (.lst ((row w2 (R1.getD (k+1) 0)).map af++ [.int ((3:Int)+(j:Int))]))):D)=aN (w2.set (R1.getD (k+1) 0) (row w2 (R1.getD (k+1) 0)++ [w'.length])):=by
    rw [ev];unfold aN;rw [←rA];unfold ao;rw [dr];rfl
   rw [←HI];rfl
  ·rintro _ ⟨w2,p8,rfl,M⟩
   rw [aK,ld] at M;have St:=M.fin (by omega) (by omega)
   have G2:=B8 AI St
   have cf:cutD (R1.map af) (some ((1:Int)+(f':Int))) none=(R1.drop (f'+1)).map af:=by
    rw [show (1:Int)+(f':Int)=((f'+1:Nat):Int) by omega,eH _ _ (by rw [l1];omega),mP]
   have szf:(2:Nat)+(cutD (R1.map af) (some ((1:Int)+(f':Int))) none).length≤sizeLine:=by
    rw [cf,aK,fw];exact small (by omega)
   refine ⟨_,rfl,_,a0,_,rfl,by show 2≤sizeLine;decide,_,rfl,_,rfl,szf,trivial,?_⟩
   refine hA _ ⟨x2,w2,bR R1 (f'+1) w'.length,some (.int (3+(j:Int))),some (.int (a:Int)),some (.int (1+(f':Int))),some (ao (R1.take (f'+1+1))),p8,?_,G2,by rw [M.l];omega⟩
   have ef:(.lst ([af (R1.getD 0 0), .int ((3:Int)+(j:Int))]++cutD (R1.map af) (some ((1:Int)+(f':Int))) none):D)=ao (bR R1 (f'+1) w'.length):=by
    rw [cf,ev];unfold bR ao;rfl
   rw [←ef];rfl
 ·rintro _ ⟨x,w',R',o4,o5,o6,o7,o8,rfl,Gr,hl⟩
  exact ⟨_,rfl,_,rfl,by show 2≤sizeLine;decide,q _ _ Gr (by omega) (by omega)⟩
end oh
namespace Wb
theorem Disc.congr{w:W}{R:List Nat}{A A':Nat×Nat→Prop}(D:Disc w R A)(h:∀d,A d↔A' d):Disc w R A':=by
 have:A=A':=funext λd=>propext (h d)
 rw [←this];exact D
def Full(w:W)(R:List Nat):Prop:=Disc w R λd=>aG w d∧¬bL R d.1 d.2
theorem GZ{a b:List Nat}(nd:(a++b).Nodup)(x y:Nat):bL (b++a) x y↔bL (a++b) x y:=by
 have mem:∀p,p∈b++a↔p∈a++b:=λp=>fj.mem_iff
 constructor
 ·rintro ⟨h,e⟩;exact ⟨(mem x).mp h,by rw [e,fD nd ((mem x).mp h)]⟩
 ·rintro ⟨h,e⟩;exact ⟨(mem x).mpr h,by rw [e,fD nd h]⟩
theorem Full.D3{w:W}{a b:List Nat}(F:Full w (a++b)):Full w (b++a):=
 (Disc.D3 F).congr λd=>by rw [GZ F.nd]
theorem bW.full{w:W}{R:List Nat}(G:bW w R):Full w R:=G.HA
theorem j0.full{w w':W}{f:Nat→Nat}(N:j0 w w' f)(g:Good w){R:List Nat}(F:Full w R):Full w' (R.map f):=by
 refine (N.HA g F).congr λd=>?_;have lj:∀{x y},aG w (x,y)→x<w.length∧y<w.length:=λh=>⟨bC h,g.rng _ _ h⟩;have Dm:∀p∈R,p<w.length:=λp hp=>(lj (F.ring p hp).1).2;have inj:∀p∈R,∀y∈R,f y=f p→y=p:=λp hp y hy e=>N.inj y p (Dm y hy) (Dm p hp) e;have sR:∀p∈R,ae (R.map f) (f p)=f (ae R p):=λp hp=>oT (inj p hp) hp
 have key:∀x y,x<w.length→y<w.length→(bL (R.map f) (f x) (f y)↔bL R x y):=λx y hx hy=>by
  constructor
  ·rintro ⟨hm,e⟩
   obtain ⟨p,hp,ep⟩:=fg.mp hm
   have:=N.inj p x (Dm p hp) hx ep
   subst this;rw [sR p hp] at e;exact ⟨hp,N.inj y _ hy (Dm _ (bq hp)) e⟩
  ·rintro ⟨hm,e⟩
   exact ⟨fg.mpr ⟨x,hm,rfl⟩,by rw [sR x hm,e]⟩
 constructor
 ·rintro ⟨x,y,⟨h1,h2⟩,rfl⟩
  have:=lj h1
  exact ⟨(N.dart g this.1 this.2).mpr h1,λz=>h2 ((key x y this.1 this.2).mp z)⟩
 ·rintro ⟨h1,h2⟩
  obtain ⟨x,y,h,rfl⟩:=N.all g h1
  have:=lj h
  exact ⟨x,y,⟨h,λz=>h2 ((key x y this.1 this.2).mpr z)⟩,rfl⟩
theorem Dg{w:W}(g:Good w)(tri:∀d,aG w d→aX w (aX w (aX w d))=d){a b:Nat}(hd:aG w (a,b)):Full w [a,b,ae (row w b) a]:=by
 have D:=Df g tri hd;refine D.congr λd=>?_;have nd:=D.nd;generalize ae (row w b) a=c at*;have s1:ae [a,b,c] a=b:=bK (a:= []) (b:= [c]) nd;have s2:ae [a,b,c] b=c:=bK (a:= [a]) (b:= []) nd;have s3:ae [a,b,c] c=a:=cT (b:= [b]) nd;obtain ⟨x,y⟩:=d;refine and_congr Iff.rfl ?_
 constructor
 ·rintro ⟨h1,h2,h3⟩ ⟨hm,e⟩
  have e:y=ae [a,b,c] x:=e;have hm:x=a∨x=b∨x=c:=by simpa using hm
  rcases hm with rfl|rfl|rfl
  ·exact h1 (by rw [e,s1])
  ·exact h2 (by rw [e,s2])
  ·exact h3 (by rw [e,s3])
 ·intro h
  refine ⟨λz=>h ?_,λz=>h ?_,λz=>h ?_⟩
  ·obtain ⟨rfl,rfl⟩:=Prod.mk.injEq .. ▸z;exact ⟨by simp,s1.symm⟩
  ·obtain ⟨rfl,rfl⟩:=Prod.mk.injEq .. ▸z;exact ⟨by simp,s2.symm⟩
  ·obtain ⟨rfl,rfl⟩:=Prod.mk.injEq .. ▸z;exact ⟨by simp,s3.symm⟩
theorem Good.zM{w:W}(g:Good w)(h2:2≤w.length){p:Nat}(hp:p<w.length):row w p≠ []:=by
 obtain ⟨p',h8,ne⟩:∃p',p'<w.length∧p'≠p:=by
  by_cases c:p=0
  ·exact ⟨1,by omega,by omega⟩
  ·exact ⟨0,by omega,by omega⟩
 have r:=((g.con p' h8).symm g.sym).trans (g.con p hp);cases r with
 |refl=>exact absurd rfl ne
 |step _ h=>
  have:=g.sym _ _ h
  intro e;rw [e] at this;cases this
end Wb
namespace oh
open PySem L2 Wb
variable {P:Program} {w:World} {mg:Str→Option Value} {base:Heap} {Z:DC} (T:Txt Z mg)
theorem qK{g:di}{tb:dW}{E:gQ}{n:Nat}{ρ:DN}(I:Nat→DN→Prop)(h0:I 0 ρ)(hs:∀(j:Nat)(ρ:DN),j<n→I j ρ→∀A:DN→Prop,(∀ρ,I (j+1) ρ→A ρ)→g (af j) ρ λaU=>tb {nx:=A,ct:=A,bk:=E.nx,rt:=E.rt} aU)
  (he:∀ρ,I n ρ→E.nx ρ):lP g tb E (eY 0 n) ρ:=Be I h0 (λj ρ hj h A hA=>by
 have:=hs j ρ hj h A hA
 unfold af at this;rw [Int.zero_add];exact this) he
theorem FZ(r:List Nat)(i x:Nat):ins (r.map af) i (af x)=(ins r i x).map af:=by
 unfold ins;simp [mO,mP]
def yH(n:Nat)(ns:List Nat):Prop:=ns.length=n∧ns.Nodup∧∀x∈ns,x<n
theorem Dt{n:Nat}{ns:List Nat}(N:yH n ns){x:Nat}(h:x<n):x∈ns:=by
 apply Classical.byContradiction;intro hx
 have:(x::ns).length≤(List.range n).length:=aM (hU.mpr ⟨hx,N.2.1⟩) λy hy=>by
  rcases cn.mp hy with rfl|hy
  ·exact bH.mpr h
  ·exact bH.mpr (N.2.2 y hy)
 rw [ji,dh,N.1] at this;omega
theorem uD{f:DN→Prop}{aA:DN}(ρ:DN)(e:aA=ρ)(h:f ρ):f aA:=by rw [e];exact h
structure NR (w F:W) (ns:List Nat) (k:Nat):Prop where
 l:F.length=w.length
 r:∀i,i<k→∃a b,row w i=a++b∧row F (ns.getD i 0)=(b++a).map λx=>ns.getD x 0
theorem NR.step{w F:W}{ns:List Nat}{k a:Nat}(h:NR w F ns k)(N:yH w.length ns)(hk:k<w.length):NR w (F.set (ns.getD k 0) (((row w k).drop a++(row w k).take a).map λx=>ns.getD x 0)) ns (k+1):=by
 have lt:ns.getD k 0<F.length:=by rw [h.l];exact N.2.2 _ (aD (by rw [N.1];exact hk))
 refine ⟨by rw [kT];exact h.l,λi hi=>?_⟩
 by_cases c:i=k
 ·subst c
  exact ⟨(row w i).take a,(row w i).drop a,(gO _ _).symm,by rw [qd lt,if_pos rfl]⟩
 ·obtain ⟨x,y,e1,e2⟩:=h.r i (by omega)
  exact ⟨x,y,e1,by rw [qd lt,if_neg (λz=>c (getD_inj N.2.1 (by rw [N.1];omega) (by rw [N.1];omega) z.symm)),e2]⟩
theorem NR.ren{w F:W}{ns:List Nat}(h:NR w F ns w.length)(N:yH w.length ns):j0 w F λx=>ns.getD x 0 where
 len:=h.l
 lt:=λx hx=>N.2.2 _ (aD (by rw [N.1];exact hx))
 inj:=λx y hx hy e=>getD_inj N.2.1 (by rw [N.1];exact hx) (by rw [N.1];exact hy) e
 onto:=λy hy=>by
  obtain ⟨i,hi,e⟩:=fK.mp (Dt N hy);exact ⟨i,by rw [N.1] at hi;exact hi,by rw [aS,bA hi];exact e⟩
 rows:=λx hx=>h.r x hx
def GA:dD:=λds P=>∃(w:W)(R:List Nat)(num:Int),ds= [aN w,ao R, .int num]∧Good w∧qC w∧3≤w.length∧w.length≤14∧Full w R∧∀F R',Good F→qC F→F.length=w.length→Full F R'→P (.tup [aN F,ao R'])
theorem Full.rm{w:W}{R:List Nat}(g:Good w)(F:Full w R):R.length≤w.length:=by
 have:=aM F.nd (m:=List.range w.length) λx hx=>bH.mpr (g.rng _ _ (F.ring x hx).1)
 rw [ji] at this;exact this
theorem uI:FnOk P w Z.K mg base cO 1 T.d__law_named.f T.d__law_named.fd ["_law_turns","_law_ring","_law_number"] (aV Z GA):=by
 have nd:=mB.nd;refine br T.d__law_named.F mB [0,0,0,1,0,1,0,0] (by decide) (λds R h=>by obtain ⟨_,_,_,rfl,_⟩:=h;rfl) (λbF A outer s H E ds R hr h=>?_)
 have hu:=hr.units
 refine ⟨_,(ah (tw 3 nd (tq ag))
   (ah (pz rfl PassesOwn.never (oq rfl T.B.range (ab (ay aP rfl T.B.len aO (ab (aa 0) ag)) ag)) (aL 4 nd) (ah (Kk false 3 (aB cJ (aa 2) (aB bO (aa 4) au)) (aa 4))
   (aq (aE false 2 nd (aB fV (aa 2) (aB bO (aa 4) au))))))
   (ah (wC 5 (NC:= ["_law_row"]) (src:= [none]) rfl nd (sI (av dR)) trivial (cE (aa 0)) (λ_ _ _=>(cD 0 (show (["_law_row"]:List Str).Nodup from by decide+kernel))) (λ_ _ _=>fm) (λ_ _ _=>(cx ag)))
   (ah (fS rfl PassesOwn.never (iG rfl T.B.enumerate (ab (aa 0) ag)) (fz 2 rfl (aZ (aL 4 nd) (aZ (aL 6 nd) cQ))) (ah (aE false 7 nd (aB cJ (aa 2) (ay aP rfl T.B.len aO (ab (aa 6) ag))))
   (ah (aE false 2 nd (aB fV (aa 2) (ay aP rfl T.B.len aO (ab (aa 6) ag))))
   (aq (ot 5 (bJ (aa 3) (aa 4)) (NL (NC:= ["_law_other","_law_names"]) (src:= [none,some 3]) rfl (sI (av dR)) ⟨rfl,rfl,trivial⟩ (cE (aB bO (bM (aa 6) (bG (aa 7)) b7) (bM (aa 6) b7 (bG (aa 7))))) (λ_ _ _=>(cD 0 (show (["_law_other","_law_names"]:List Str).Nodup from by decide+kernel))) (λ_ _ _=>fm) (λ_ _ _=>(bJ (aa 1) (aa 0)))))))))
   (ah (aE false 7 nd (aB cJ (aa 2) (ay aP rfl T.B.len aO (ab (aa 1) ag))))
   (aq (aJ (eT (ab (aa 5) (ab (t5 (NC:= ["_law_point","_law_names"]) (src:= [none,some 3]) rfl (sI (av dR)) ⟨rfl,rfl,trivial⟩ (cE (aB bO (bM (aa 1) (bG (aa 7)) b7) (bM (aa 1) b7 (bG (aa 7))))) (λ_ _ _=>(cD 0 (show (["_law_point","_law_names"]:List Str).Nodup from by decide+kernel))) (λ_ _ _=>fm) (λ_ _ _=>(bJ (aa 1) (aa 0)))) ag)))))))))),?_⟩
 obtain ⟨w',R',num,rfl,g,B,h3,bE,Fl,q⟩:=h;have lw:(w'.map ao).length=w'.length:=aK _;refine ⟨by show 0≤sizeLine;decide,?_⟩
 refine ⟨_,rfl,⟨by omega,by show ((w'.map ao).length:Int)<2^62;omega⟩,?_⟩
 rw [show (((w'.map ao).length:Int)).toNat=w'.length by omega]
 refine qK (λj ρ=>∃(y:Int)(ns:List Nat)(o4 o5 o6 o7:Option D),ρ= [some (aN w'),some (ao R'),some (.int y),some (ao ns),o4,o5,o6,o7]∧yH j ns) ⟨num,[],_,_,_,_,rfl,rfl,kW,λx h=>by cases h⟩ ?_ ?_
 ·rintro j _ hj ⟨y,ns,o4,o5,o6,o7,rfl,hl,nd,lt⟩ A hA
  have mq:=gU y ((j:Int)+1) (by omega)
  have lr:(ns.map af).length=j:=by rw [aK,hl]
  refine ⟨_,rfl,_,rfl,_,rfl,by show (0:Int)<(j:Int)+1;omega,_,rfl,_,rfl,trivial,⟨mq.1,by rw [lr];show y%((j:Int)+1)≤_;omega,kB (by rw [lr];omega)⟩,?_⟩
  refine ⟨_,rfl,_,rfl,⟨by show (0:Int)<(j:Int)+1;omega,by show (j:Int)+1<1073741824;omega⟩,trivial,?_⟩
  refine hA _ ⟨y / ((j:Int)+1),ins ns (y%((j:Int)+1)).toNat j,some (af j),o5,o6,o7,?_,by rw [Br,hl],Dw nd (λz=>by have:=lt j z;omega),λx hx=>?_⟩
  ·unfold ao;rw [←FZ];rfl
  ·rcases IB.mp hx with rfl|hx
   ·omega
   ·have:=lt x hx;omega
 ·rintro _ ⟨y,ns,o4,o5,o6,o7,rfl,N⟩
  refine ⟨_,rfl,j9 (ρ:= [none]) ao (λ_=> .lst []) w' _ (λy hy Y h=>⟨by show 0≤sizeLine;decide,h⟩) rfl (small (by omega)) λaA=>?_⟩
  have e0:(.lst (w'.map λ_=>(.lst []:D)):D)=aN (w'.map λ_=> []):=by unfold aN;rw [gh];rfl
  refine (?_:t4 _ _ _ [some (aN w'),some (ao R'),some (.int y),some (ao ns),o4,some (.lst (w'.map λ_=>(.lst []:D))),o6,o7]);rw [e0];refine ⟨_,rfl,dJ (λk ρ=>∃(y:Int)(F:W)(o4 o6 o7:Option D),ρ= [some (aN w'),some (ao R'),some (.int y),some (ao ns),o4,some (aN F),o6,o7]∧NR w' F ns k) ⟨_,_,_,_,_,rfl,by simp,λi h=>by omega⟩ ?_ ?_⟩
  ·rintro k d _ hd ⟨y,F,p4,p6,p7,rfl,nr⟩ A hA
   obtain ⟨d',hy,rfl⟩:=j5 hd;obtain ⟨r,Sk,rfl⟩:=fu hy;have hk:k<w'.length:=(eO.mp Sk).1;have er:row w' k=r:=Fg Sk
   have UP:0<r.length:=by
    have:=g.zM (by omega) hk
    rw [er] at this;exact vG.mpr this
   have rl:=iP g k;rw [er] at rl;have lr:(r.map af).length=r.length:=aK _;have e1:(0:Int)<((r.map af).length:Int):=by rw [lr];omega
   refine ⟨rfl,rfl,?_⟩;refine ⟨_,rfl,_,rfl,e1,trivial,?_⟩;refine ⟨_,rfl,_,rfl,⟨e1,by rw [lr];omega⟩,trivial,?_⟩
   have m1:=gU y ((r.map af).length:Int) e1;refine uD [some (aN w'),some (ao R'),some (.int (y / ((r.map af).length:Int))),some (ao ns),some (af k),some (aN F),some (ao r),some (.int (y%((r.map af).length:Int)))] rfl ?_;generalize Og:y%((r.map af).length:Int)=at_ at m1;obtain ⟨a,rfl⟩:∃a:Nat,at_=(a:Int):=⟨at_.toNat,by omega⟩
   rw [lr] at m1;have ca:cutD (r.map af) (some (a:Int)) none=(r.drop a).map af:=by rw [eH _ _ (by rw [lr];omega),mP]
   have cb:cutD (r.map af) none (some (a:Int))=(r.take a).map af:=by rw [eJ _ _ (by rw [lr];omega),mO]
   have l2:(r.drop a++r.take a).length=r.length:=by rw [b9,fw,cm];omega
   have nH:(cutD (r.map af) (some (a:Int)) none).length+(cutD (r.map af) none (some (a:Int))).length≤sizeLine:=by
    rw [ca,cb,aK,aK];exact small (by rw [b9] at l2;omega)
   refine ⟨_,rfl,_,rfl,_,rfl,_,rfl,nH,?_⟩;refine (?_:lcW _ _ _ (cutD (r.map af) (some (a:Int)) none++cutD (r.map af) none (some (a:Int))) _ _ _);rw [ca,cb,←dr];refine j9 (ρ:= [none,some (ao ns)]) af (λo=>af (ns.getD o 0)) (r.drop a++r.take a) _ (λo ho Y hY=>?_) rfl (small (by omega)) λaA=>?_
   ·have:o∈r:=by
     have:o∈r.take a++r.drop a:=fj.mem_iff.mp ho
     rw [gO] at this;exact this
    have bN:o<ns.length:=by rw [N.1];exact g.rng k o (by rw [er];exact this)
    exact ⟨_,rfl,_,rfl,_,fv bN,hY⟩
   ·have Oz:k<ns.length:=by rw [N.1];exact hk
    have Z9:ns.getD k 0<F.length:=by rw [nr.l];exact N.2.2 _ (aD Oz)
    refine ⟨?_,_,rfl,_,rfl,_,rfl,_,fv Oz,_,ns.getD k 0,rfl,jI (by rw [aK];exact Z9),?_⟩
    ·rw [List.all_map,List.all_eq_true];intro x _;rfl
    ·have Tq:=nr.step (a:=a) N hk
     rw [er] at Tq;refine hA _ ⟨y / ((r.map af).length:Int),_,some (af k),some (ao r),some (.int (a:Int)),?_,Tq⟩
     have es:(.lst ((F.map ao).set (ns.getD k 0) (.lst ((r.drop a++r.take a).map λo=>af (ns.getD o 0)))):D)=aN (F.set (ns.getD k 0) ((r.drop a++r.take a).map λx=>ns.getD x 0)):=by
      unfold aN;rw [←rA];unfold ao;rw [gh];rfl
     rw [←es];rfl
  ·rintro _ ⟨y,F,p4,p6,p7,rfl,nr⟩
   rw [CG,lw] at nr;have Rn:=nr.ren N;have lR:(R'.map af).length=R'.length:=aK _;have hR3:=Fl.len;have hRw:=Full.rm g Fl;have e1:(0:Int)<((R'.map af).length:Int):=by rw [lR];omega
   refine ⟨_,rfl,_,rfl,e1,trivial,?_⟩;have m1:=gU y ((R'.map af).length:Int) e1;refine uD [some (aN w'),some (ao R'),some (.int y),some (ao ns),p4,some (aN F),p6,some (.int (y%((R'.map af).length:Int)))] rfl ?_;generalize Og:y%((R'.map af).length:Int)=at_ at m1;obtain ⟨a,rfl⟩:∃a:Nat,at_=(a:Int):=⟨at_.toNat,by omega⟩
   rw [lR] at m1;have ca:cutD (R'.map af) (some (a:Int)) none=(R'.drop a).map af:=by rw [eH _ _ (by rw [lR];omega),mP]
   have cb:cutD (R'.map af) none (some (a:Int))=(R'.take a).map af:=by rw [eJ _ _ (by rw [lR];omega),mO]
   have l2:(R'.drop a++R'.take a).length=R'.length:=by rw [b9,fw,cm];omega
   have nH:(cutD (R'.map af) (some (a:Int)) none).length+(cutD (R'.map af) none (some (a:Int))).length≤sizeLine:=by
    rw [ca,cb,aK,aK];exact small (by rw [b9] at l2;omega)
   have Fr:Full w' (R'.drop a++R'.take a):=by
    have:=Fl
    rw [←gO a R'] at this;exact this.D3
   refine ⟨_,rfl,_,rfl,_,rfl,_,rfl,_,rfl,nH,?_⟩;refine (?_:lcW _ _ _ (cutD (R'.map af) (some (a:Int)) none++cutD (R'.map af) none (some (a:Int))) _ _ _);rw [ca,cb,←dr];refine j9 (ρ:= [none,some (ao ns)]) af (λo=>af (ns.getD o 0)) (R'.drop a++R'.take a) _ (λo ho Y hY=>?_) rfl (small (by omega)) λaA=>?_
   ·have bN:o<ns.length:=by rw [N.1];exact g.rng _ _ (Fr.ring o ho).1
    exact ⟨_,rfl,_,rfl,_,fv bN,hY⟩
   ·refine ⟨by show 2≤sizeLine;decide,?_⟩
    have e2:(.lst ((R'.drop a++R'.take a).map λo=>af (ns.getD o 0)):D)=ao ((R'.drop a++R'.take a).map λx=>ns.getD x 0):=by unfold ao;rw [gh];rfl
    have:=q F ((R'.drop a++R'.take a).map λx=>ns.getD x 0) (Rn.good g) (Rn.bnd g B) nr.l (Rn.full g Fr)
    rw [←e2] at this;exact this
variable {P:Program} {w:World} {mg:Str→Option Value} {base:Heap} {Z:DC} (T:Txt Z mg)
theorem zv{x:Nat}:∀(ns:List Nat)(m:Nat),m<ns.idxOf x→ns[m]? ≠some x
 | [],m,h=>by simp at h
 |a::ns,m,h=>by
  rw [rF] at h
  by_cases e:(a==x)=true
  ·rw [e] at h;simp at h
  ·rw [yE.mpr e] at h
   cases m with
   |zero=>intro z;simp at z;exact e (by simp [z])
   |succ m=>rw [sC];exact zv ns m (by simpa using h)
theorem C7{ns:List Nat}{x:Nat}{P:D→Prop}(h:x∈ns)(q:P (af (ns.idxOf x))):fi (af x)=true∧(ns.map af).all fi=true∧∃(j:Nat)(z:D),(ns.map af)[j]? =some z∧i9 z (af x)=true∧(∀(m:Nat) z,m<j→(ns.map af)[m]? =some z→i9 z (af x)=false)∧P (.int (j:Nat)):=by
 have hl:=gN.mpr h;have e:ns[ns.idxOf x]? =some x:=by rw [bA hl];exact congrArg some (iU hl)
 refine ⟨rfl,ck _,ns.idxOf x,af x,by rw [fc,e];rfl,by simp [i9,af],λm z hm hz=>?_,q⟩
 obtain ⟨y,hy,rfl⟩:=fu hz
 have:y≠x:=by
  rintro rfl;exact zv _ _ hm hy
 have:¬((y:Int)=(x:Int)):=by omega
 simpa [i9,af] using this
theorem bI{ns:List Nat}{x:Nat}(h:x∈ns):(ns.map af)[ns.idxOf x]? =some (af x)∧i9 (af x) (af x)=true∧∀(m:Nat) z,m<ns.idxOf x→(ns.map af)[m]? =some z→i9 z (af x)=false:=by
 have:=C7 (P:=λd=>d=af (ns.idxOf x)) h rfl
 obtain ⟨_,_,j,z,h1,h2,h3,h4⟩:=this;have hl:=gN.mpr h;have e:ns[ns.idxOf x]? =some x:=by rw [bA hl];exact congrArg some (iU hl)
 refine ⟨by rw [fc,e];rfl,by simp [i9,af],λm z hm hz=>?_⟩
 obtain ⟨y,hy,rfl⟩:=fu hz
 have:y≠x:=by
  rintro rfl;exact zv _ _ hm hy
 have:¬((y:Int)=(x:Int)):=by omega
 simpa [i9,af] using this
theorem oR(n:Nat):eY 0 n=(List.range n).map λ(x:Nat)=>af x:=by unfold eY af;simp
def JF:dD:=λds P=>∃(ns:List Int),ds= [.jW ns]∧∀F R,Good F→qC F→3≤F.length→F.length≤14→Full F R→P (.tup [aN F,ao R])
theorem uG:FnOk P w Z.K mg base cO 2 T.d__law_built.f T.d__law_built.fd ["_law_script"] (aV Z JF):=by
 have nd:=mn.nd;refine br T.d__law_built.F mn [0,0,0,0,0,0,0] (by decide) (λds R h=>by obtain ⟨_,rfl,_⟩:=h;rfl) (λbF A outer s H E ds R hr h=>?_)
 have hu:=hr.units
 refine ⟨_,(ah (pk (az T.d__law_grown (uH T) hr (ab (az T.d__law_drawn (fX T) hr (ab (az T.d__law_cell_at (eW T) hr (ab (aa 0) (ab au ag))) ag)) ag)) (fz 2 rfl (aZ (aL 1 nd) (aZ (aL 2 nd) cQ))))
   (ah (aE false 3 nd (az T.d__law_drawn (fX T) hr (ab (az T.d__law_cell_at (eW T) hr (ab (aa 0) (ab au ag))) ag)))
   (ah (bX (bp (jr hu) (ay aP rfl T.B.len aO (ab (aa 2) ag)) au (bw _)) (ah (aE false 4 nd (aB cJ (aa 3) (ay aP rfl T.B.len aO (ab (aa 1) ag))))
   (ah (aE false 5 nd (bJ (bJ (aa 1) (aa 4)) (aB cJ (aB fV (aa 3) (ay aP rfl T.B.len aO (ab (aa 1) ag))) (ay aP rfl T.B.len aO (ab (bJ (aa 1) (aa 4)) ag)))))
   (ah (aE false 6 nd (bJ (aa 1) (aa 5)))
   (aq (aE false 2 nd (cx (ab (aa 4) (ab (aa 5) (ab (bJ (aa 6) (aB cJ (aB bO (mV (aa 6) (aa 4)) au) (ay aP rfl T.B.len aO (ab (aa 6) ag)))) ag))))))))) bg)
   (aq (aJ (az T.d__law_named (uI T) hr (ab (aa 1) (ab (aa 2) (ab (az T.d__law_drawn (fX T) hr (ab (az T.d__law_cell_at (eW T) hr (ab (aa 0) (ab au ag))) ag)) ag))))))))),?_⟩
 obtain ⟨ns,rfl,q⟩:=h;refine ⟨_,rfl,ns,0,rfl,λv0=>⟨v0,rfl,λv1=>⟨v1,rfl,λw' R' Gr h3 bE=>?_⟩⟩⟩;refine ⟨rfl,rfl,?_⟩;refine ⟨_,rfl,ns,4,rfl,λv2=>⟨v2,rfl,λv3=>⟨trivial,?_⟩⟩⟩;have lR:(R'.map af).length=R'.length:=aK _;have lw:(w'.map ao).length=w'.length:=aK _;refine ⟨_,rfl,?_⟩;dsimp only [pd,AO];refine Kn ⟨_,rfl,eo (λe=>?_) (λe=>?_)⟩
 ·have e3:R'.length=3:=by have:=of_decide_eq_true e;omega
  have tri:=λd hd=>Gr.three e3 (d:=d) hd;have e1:(0:Int)<((w'.map ao).length:Int):=by rw [lw];omega
  refine ⟨_,rfl,_,rfl,e1,trivial,?_⟩;have m1:=gU v3 ((w'.map ao).length:Int) e1;refine uD [some (.jW ns),some (aN w'),some (ao R'),some (.int v3),some (.int (v3%((w'.map ao).length:Int))),none,none] rfl ?_;generalize v3%((w'.map ao).length:Int)=x1 at m1;obtain ⟨p,rfl⟩:∃a:Nat,x1=(a:Int):=⟨x1.toNat,by omega⟩
  rw [lw] at m1;have hp:p<w'.length:=by omega
  have UP:0<(row w' p).length:=vG.mpr (Gr.g.zM (by omega) hp)
  have rl:=iP Gr.g p;have lr:((row w' p).map af).length=(row w' p).length:=aK _;have e2:(0:Int)<(((row w' p).map af).length:Int):=by rw [lr];omega
  have m2:=gU (v3 / ((w'.map ao).length:Int)) (((row w' p).map af).length:Int) e2
  have at2:gD ((row w' p).map af) (v3 / ((w'.map ao).length:Int)%(((row w' p).map af).length:Int))=some (af ((row w' p).getD (v3 / ((w'.map ao).length:Int)%(((row w' p).map af).length:Int)).toNat 0)):=by
   have:=fv (ns:=row w' p) (p:=(v3 / ((w'.map ao).length:Int)%(((row w' p).map af).length:Int)).toNat) (by omega)
   rw [Int.toNat_of_nonneg m2.1] at this;exact this
  have qm:(row w' p).getD (v3 / ((w'.map ao).length:Int)%(((row w' p).map af).length:Int)).toNat 0∈row w' p:=aD (by omega)
  generalize (row w' p).getD (v3 / ((w'.map ao).length:Int)%(((row w' p).map af).length:Int)).toNat 0=o at at2 qm;refine ⟨_,rfl,_,rfl,_,gJ hp,_,rfl,_,rfl,⟨e1,by rw [lw];omega⟩,_,rfl,_,rfl,_,gJ hp,e2,_,at2,trivial,?_⟩
  have ho:o<w'.length:=Gr.g.rng _ _ qm;refine ⟨_,rfl,_,rfl,_,gJ ho,trivial,?_⟩;have po:p∈row w' o:=Gr.g.sym _ _ qm;have Ug:0<(row w' o).length:=Cn po;have lo:((row w' o).map af).length=(row w' o).length:=aK _;have e4:(0:Int)<(((row w' o).map af).length:Int):=by rw [lo];omega
  have e5:(((row w' o).idxOf p:Int)+1)%(((row w' o).map af).length:Int)=((((row w' o).idxOf p+1)%(row w' o).length:Nat):Int):=by rw [lo,Int.natCast_emod];rfl
  have Wd:gD ((row w' o).map af) ((((row w' o).idxOf p:Int)+1)%(((row w' o).map af).length:Int))=some (af (ae (row w' o) p)):=by
   rw [e5];exact fv (og _ Ug)
  refine ⟨_,rfl,_,rfl,_,rfl,_,rfl,_,rfl,_,rfl,rfl,ck _,_,_,(bI po).1,(bI po).2.1,(bI po).2.2,_,rfl,e4,_,Wd,by show 3≤sizeLine;decide,trivial,?_⟩
  exact ⟨_,rfl,_,rfl,_,rfl,ns,1,rfl,λv4=>⟨v4,rfl,λv5=>⟨w',[p,o,ae (row w' o) p],v5,rfl,Gr.g,Gr.bnd,h3,bE,Dg Gr.g tri qm,λF R2 g B hl fl=>q F R2 g B (by omega) (by omega) fl⟩⟩⟩
 ·exact ⟨_,rfl,_,rfl,_,rfl,ns,1,rfl,λv4=>⟨v4,rfl,λv5=>⟨w',R',v5,rfl,Gr.g,Gr.bnd,h3,bE,Gr.full,λF R2 g B hl fl=>q F R2 g B (by omega) (by omega) fl⟩⟩⟩
def LH:dD:=λds P=>∃(w:W),ds= [aN w]∧Good w∧1≤w.length∧w.length≤14∧P (.eE w)
theorem zC:FnOk P w Z.K mg base cO 6 T.d__law_web.f T.d__law_web.fd ["_law_turns"] (aV Z LH):=by
 have nd:=qf.nd;refine br T.d__law_web.F qf [0] (by decide) (λds R h=>by obtain ⟨_,rfl,_⟩:=h;rfl) (λbF A outer s H E ds R hr h=>?_)
 have hu:=hr.units;refine ⟨_,(aq (aJ (Hu T.mkW (qY T) (hr.mono (by decide)) rfl T.mC T.m___init__b (ab (t5 (NC:= ["_law_row"]) (src:= [none]) rfl (sI (av jc)) trivial (cE (aa 0)) (λ_ _ _=>(cD 0 (show (["_law_row"]:List Str).Nodup from by decide+kernel))) (λ_ _ _=>fm) (λ_ _ _=>(j3 oZ rfl T.B.list lJ (ab (aa 0) ag)))) ag)))),?_⟩
 obtain ⟨w',rfl,g,h1,bE,q⟩:=h;exact ⟨_,rfl,j9 (ρ:= [none]) ao ao w' _ (λy hy Y h=>⟨_,rfl,h⟩) rfl (small (by omega)) λaA=>⟨w',rfl,g,h1,bE,q⟩⟩
end oh
namespace Wb
structure f9 (w:W) (R:List Nat):Prop where
 nd:R.Nodup
 len:3≤R.length
 tie:∀p∈R,ae R p∈row w p
theorem Disc.sh{w:W}{R:List Nat}{A:Nat×Nat→Prop}(D:Disc w R A)(g:Good w):f9 w R:=⟨D.nd,D.len,λp hp=>g.sym _ _ (D.ring p hp).1⟩
section
variable {w:W} {R:List Nat}
def rj(l:List Nat)(a:Nat):List Nat:=l.drop (l.idxOf a+1)++l.take (l.idxOf a)
theorem qq(w:W)(R:List Nat)(i:Nat):withinL w R i=(rj (row w (R.getD i 0)) (R.getD ((i+1)%R.length) 0)).take ((rj (row w (R.getD i 0)) (R.getD ((i+1)%R.length) 0)).idxOf (R.getD (bS R i) 0)):=rfl
theorem DY{l:List Nat}{a x:Nat}(ha:a∈l)(hx:x∈l)(ne:x≠a):x∈rj l a:=by
 have:=(iO l a).mem_iff.mpr hx
 rw [ku ha] at this
 rcases cn.mp this with e|e
 ·exact absurd e ne
 ·exact e
theorem uS{l:List Nat}{a:Nat}(ha:a∈l):(rj l a).length+1=l.length:=by
 have:=m8 l a
 rw [ku ha,dh] at this;exact this
theorem f9.lt(T:f9 w R)(g:Good w){x:Nat}(h:x∈R):x<w.length:=bC (T.tie x h)
theorem f9.next(T:f9 w R){i:Nat}(hi:i<R.length):R.getD ((i+1)%R.length) 0∈row w (R.getD i 0):=by
 rw [←iz T.nd hi];exact T.tie _ (aD hi)
theorem f9.prev(T:f9 w R)(g:Good w){i:Nat}(hi:i<R.length):R.getD (bS R i) 0∈row w (R.getD i 0):=by
 have:=T.tie _ (aD (fG hi))
 rw [gL T.nd hi] at this;exact g.sym _ _ this
theorem f9.pn(T:f9 w R){i:Nat}(hi:i<R.length):R.getD (bS R i) 0≠R.getD ((i+1)%R.length) 0:=by
 intro e;have len:=T.len
 have:=getD_inj T.nd (fG hi) (og _ (by omega)) e
 unfold bS at this
 by_cases c:i+1<R.length
 ·rw [mM c] at this
  split at this<;>omega
 ·rw [show i+1=R.length by omega,rG] at this
  split at this<;>omega
theorem f9.Pb(T:f9 w R)(g:Good w){i:Nat}(hi:i<R.length):R.getD (bS R i) 0∈rj (row w (R.getD i 0)) (R.getD ((i+1)%R.length) 0):=DY (T.next hi) (T.prev g hi) (T.pn hi)
theorem f9.rm(T:f9 w R)(g:Good w):R.length≤w.length:=by
 have:=aM T.nd (m:=List.range w.length) λx hx=>bH.mpr (T.lt g hx)
 rw [ji] at this;exact this
end
end Wb
namespace oh
open PySem L2 Wb
variable {P:Program} {w:World} {mg:Str→Option Value} {base:Heap} {Z:DC} (T:Txt Z mg)
theorem xk{R:List Nat}{i:Nat}(hi:i<R.length):gD (R.map af) ((i:Int)-1)=some (af (R.getD (bS R i) 0)):=by
 have lR:(R.map af).length=R.length:=aK _;have lt:=fG hi;refine J7 (j:=bS R i) lR ?_ (by rw [fc,aS,bA lt];rfl)
 unfold oF bS
 by_cases c:i=0
 ·rw [if_pos c,if_neg (by omega),if_pos (by omega)]
  congr 1
  omega
 ·rw [if_neg c,if_pos (by omega),if_pos (by omega)]
  congr 1
  omega
theorem Ge{R:List Nat}{i:Nat}(hi:i<R.length):gD (R.map af) (((i:Int)+1)%((R.map af).length:Int))=some (af (R.getD ((i+1)%R.length) 0)):=by
 have lR:(R.map af).length=R.length:=aK _;have e:((i:Int)+1)%((R.map af).length:Int)=(((i+1)%R.length:Nat):Int):=by rw [lR,Int.natCast_emod];rfl
 rw [e];exact fv (og _ (by omega))
variable {P:Program} {w:World} {mg:Str→Option Value} {base:Heap} {Z:DC} (T:Txt Z mg)
theorem wx{α:Type}(l:List α)(i j:Nat)(h:i≤j)(hj:j≤l.length):cutD l (some (i:Int)) (some (j:Int))=(l.take j).drop i:=by
 unfold cutD
 have e1:HT.bD l.length 0 (some (i:Int))=i:=by
  simp only [HT.bD]
  split<;>omega
 have e2:HT.bD l.length l.length (some (j:Int))=j:=by
  simp only [HT.bD]
  split<;>omega
 rw [e1,e2,List.drop_take]
variable {P:Program} {w:World} {mg:Str→Option Value} {base:Heap} {Z:DC} (T:Txt Z mg)
theorem iN{α:Type}{f:α→D}{g:α→PyData}(h:∀a,(f a).py=some (g a)):∀l:List α,fC (l.map f)=some (l.map g)
 | []=>rfl
 |a::l=>by
  have:=iN h l
  rw [iV,fC,h a,this];rfl
theorem ne_nil{l:List D}{ps:List PyData}{P:D→Prop}(h:fC l=some ps)(hd:(PyData.list ps).depth≤64)(q:P (.bl (!l.isEmpty))):NA (.lst l) (.lst []) P:=by
 refine ⟨.list ps, .list [],by rw [D.py,h];rfl,rfl,hd,?_⟩
 have:PyData.eqv (.list ps) (.list [])=l.isEmpty:=by
  cases l with
  |nil=>
   have:ps= []:=(Option.some.inj h).symm
   rw [this];decide
  |cons a l=>
   cases ps with
   |nil=>
    rw [fC] at h;cases e:a.py with
    |none=>rw [e] at h;cases h
    |some x=>
     rw [e] at h;cases e2:fC l with
     |none=>rw [e2] at h;cases h
     |some y=>rw [e2] at h;cases h
   |cons b ps=>rw [PyData.eqv];rfl
 rw [if_pos rfl,this];exact q
theorem tW{α:Type}(l:List α)(h:0<l.length):cutD l none (some (-1))=l.dropLast:=by
 unfold cutD;have e1:HT.bD l.length 0 none=0:=rfl
 have e2:HT.bD l.length l.length (some (-1))=l.length-1:=by
  simp only [HT.bD]
  split<;>omega
 rw [e1,e2,List.drop_zero,List.dropLast_eq_take,Nat.sub_zero]
end oh
namespace L2
open PySem PySem.Spec PyProof.Rows
section
variable {Z:DC} {X:Cx} {md:List Nat} {rn:Nat} {e:Expr} {pos p2:Pos} {te:aT} {t:lA} {lo hi:Option Expr} {tl th:AH}
def Xb(te:aT)(tl th:AH):lA:=λρ P=>te ρ λx=>tl ρ λlo=>th ρ λhi=>match x with
 | .lst l=>P (cutD l lo hi)
 |_=>False
theorem wz(he:DE Z X e te)(hl:DO Z X lo tl)(hu:DO Z X hi th):DF Z X 1 (.Subscript e (.Slice lo hi none p2) pos) (Xb te tl th):=by
 refine (xf BZ he hl hu).imp ?_;rintro σ H Q ⟨G,ρ,P,s,en,h,q⟩;refine ⟨G,ρ,_,s,en,h,λd hd v G1 H1 x1 dv=>?_⟩;refine ⟨G1,ρ,_,x1.sub,en.mono x1.gg,hd,λl hl G2 H2 x2=>?_⟩;refine ⟨G2,ρ,_,x2.sub,(en.mono x1.gg).mono x2.gg,hl,λu hu G3 H3 x3=>?_⟩;have x:=(x1.trans x2).trans x3;have dv:=(dv.mono x2.gg).mono x3.gg;cases dv<;>first|exact hu.elim|skip
 rename_i h e
 refine ⟨_,_,rfl,cp.of (x3.sub _ _ h),λp hn=>?_⟩;obtain ⟨o1,o2,o3⟩:=pW x hn (yR e l u);exact q _ hu _ _ _ _ (x.side hn) o1 o2 o3
def NF(t:lA):dW:=λE ρ=>t ρ λds=>E.rt (.lst ds)
theorem A5(he:DF Z X rn e t):DSt Z X md rn (.Return (some e) pos) (NF t):=(zI he).imp λD σ H ⟨B,ρ,E,⟨G,fp,S⟩,h,M⟩=>by
 let F:Addr→Prop:=λb=>∃i,b∈fp i
 have s:=S.ex.sub
 have x0:Ext B.G₀ B.H₀ (plus G H F) H:=⟨S.ex.gg.trans (fF s),gw s,S.ex.hh,λb hb hg=>by
  rw [iy (λ⟨i,hi⟩=>hb (S.nw i b hi).1)];exact S.ex.off b hb hg⟩
 refine ⟨plus G H F,ρ,_,gw s,⟨S.len,λi d h=>?_⟩,h,λds hd v f G' H' x o nd nw=>M.rt _ hd v f G' H' (x0.trans x) o nd λb hb=>⟨S.ex.hh.free (nw b hb).1,(nw b hb).2⟩⟩;obtain ⟨v,hv,o⟩:=S.at_ i d h;exact ⟨v,hv,o.dv (fF s) λb hb u e=>by rw [jQ ⟨i,hb⟩];exact e⟩
end
end L2
namespace oh
open PySem L2 Wb
variable {P:Program} {w:World} {mg:Str→Option Value} {base:Heap} {Z:DC} (T:Txt Z mg)
theorem qc(r:List Nat):(ao r).py=some (kJ r):=by
 unfold ao kJ;rw [D.py,iN (g:=nD) (λn=>rfl)];rfl
theorem Fd(w:W):(aN w).py=some (ql w):=by
 unfold aN ql;rw [D.py,iN (g:=kJ) qc];rfl
theorem Hl{v w:W}{P:D→Prop}(h:P (.bl (decide (v=w)))):yT (aN v) (aN w) P:=by
 refine ⟨_,_,Fd v,Fd w,by have:=A3 v;omega,?_⟩
 have:PyData.eqv (ql v) (ql w)=decide (v=w):=by
  by_cases e:v=w
  ·rw [decide_eq_true e];exact (wJ v w).mpr e
  ·rw [decide_eq_false e]
   apply yE.mpr;exact λz=>e ((wJ v w).mp z)
 rw [if_neg cN,this];exact h
theorem A9(a b:List Nat):PyData.eqv (kJ a) (kJ b)=decide (a=b):=by
 by_cases e:a=b
 ·rw [decide_eq_true e];exact (qJ a b).mpr e
 ·rw [decide_eq_false e]
  apply yE.mpr;exact λz=>e ((qJ a b).mp z)
theorem Hk{v w:List Nat}{P:D→Prop}(h:P (.bl (decide (v=w)))):yT (ao v) (ao w) P:=by
 refine ⟨_,_,qc v,qc w,by have:=lL v;omega,?_⟩
 rw [if_neg cN,A9];exact h
theorem tZ{v w:List Nat}{P:D→Prop}(h:P (.bl (!decide (v=w)))):NA (ao v) (ao w) P:=by
 refine ⟨_,_,qc v,qc w,by have:=lL v;omega,?_⟩
 rw [if_pos rfl,A9];exact h
def JE:dD:=λds P=>∃(l:List Nat)(x:Nat),ds= [ao l,af x]∧l.length≤100∧x∈l∧P (ao (bT l x))
theorem zD:FnOk P w Z.K mg base cO 1 T.d_begun_at.f T.d_begun_at.fd ["ring","p"] (aV Z JE):=by
 have nd:=qg.nd;refine br T.d_begun_at.F qg [0,0,0] (by decide) (λds R h=>by obtain ⟨_,_,rfl,_⟩:=h;rfl) (λbF A outer s H E ds R hr h=>?_)
 have hu:=hr.units
 refine ⟨_,(ah (aE false 2 nd (mV (aa 0) (aa 1)))
   (aq (aJ (aB bO (bM (aa 0) (bG (aa 2)) b7) (bM (aa 0) b7 (bG (aa 2))))))),?_⟩
 obtain ⟨l,x,rfl,h1,hx,q⟩:=h;have ll:(l.map af).length=l.length:=aK _;have il:=gN.mpr hx;refine ⟨_,rfl,_,rfl,_,rfl,rfl,ck _,_,_,(bI hx).1,(bI hx).2.1,(bI hx).2.2,trivial,?_⟩;have ca:cutD (l.map af) (some ((l.idxOf x:Nat):Int)) none=(l.drop (l.idxOf x)).map af:=by rw [eH _ _ (by rw [ll];omega),mP]
 have cb:cutD (l.map af) none (some ((l.idxOf x:Nat):Int))=(l.take (l.idxOf x)).map af:=by rw [eJ _ _ (by rw [ll];omega),mO]
 have nH:(cutD (l.map af) (some ((l.idxOf x:Nat):Int)) none).length+(cutD (l.map af) none (some ((l.idxOf x:Nat):Int))).length≤sizeLine:=by
  rw [ca,cb,aK,aK,fw,cm];exact small (by omega)
 have er:(.lst (cutD (l.map af) (some ((l.idxOf x:Nat):Int)) none++cutD (l.map af) none (some ((l.idxOf x:Nat):Int))):D)=ao (bT l x):=by rw [ca,cb];unfold ao bT;rw [dr]
 rw [←er] at q;exact ⟨_,rfl,_,rfl,_,rfl,_,rfl,nH,q⟩
def B7:dD:=λds P=>∃(w:W)(R:List Nat)(i:Nat),ds= [.eE w,ao R,af i]∧Good w∧w.length≤14∧f9 w R∧i<R.length∧P (ao (withinL w R i))
theorem fW:FnOk P w Z.K mg base cO 2 T.d_within_at.f T.d_within_at.fd ["web","ring","i"] (lY Z 1 B7):=by
 have nd:=nZ.nd;refine mY 1 T.d_within_at.F nZ [0,0,0,0] (by decide) (λds R h=>by obtain ⟨_,_,_,rfl,_⟩:=h;rfl) (λbF A outer s H E ds R hr h=>?_)
 have hu:=hr.units
 refine ⟨_,(ah (aE false 3 nd (az T.d_begun_at (zD T) hr (ab (bJ (wy T.W (aa 0) T.m_turns.m (nS T) (hr.mono (by decide)) T.m_turns.b) (bJ (aa 1) (aa 2))) (ab (bJ (aa 1) (aB cJ (aB bO (aa 2) au) (ay aP rfl T.B.len aO (ab (aa 1) ag)))) ag))))
   (aq (A5 (wz (aa 3) (bG au) (bG (mV (aa 3) (bJ (aa 1) (aB ie (aa 2) au)))))))),?_⟩
 obtain ⟨w',R',i,rfl,g,bE,Ti,hi,q⟩:=h;have lR:(R'.map af).length=R'.length:=aK _;have h3:=Ti.len;have e0:(0:Int)<((R'.map af).length:Int):=by rw [lR];omega
 have vlt:=Ti.lt g (aD hi);have rl:=iP g (R'.getD i 0);have nm:=Ti.next hi;refine ⟨_,rfl,w',rfl,w',rfl,bE,_,rfl,_,rfl,_,fv hi,_,gJ vlt,_,rfl,_,rfl,_,rfl,e0,_,Ge hi,row w' (R'.getD i 0),R'.getD ((i+1)%R'.length) 0,rfl,by omega,nm,trivial,?_⟩
 have et:=ku nm;have pm:=Ti.Pb g hi;have wd:R'.getD (bS R' i) 0∈bT (row w' (R'.getD i 0)) (R'.getD ((i+1)%R'.length) 0):=by rw [et];exact cI _ pm
 refine ⟨_,rfl,_,rfl,_,rfl,_,rfl,_,rfl,_,xk hi,rfl,ck _,_,_,(bI wd).1,(bI wd).2.1,(bI wd).2.2,?_⟩
 have eb:(R'.getD ((i+1)%R'.length) 0==R'.getD (bS R' i) 0)=false:=by
  rw [beq_eq_false_iff_ne];exact (Ti.pn hi).symm
 have ei:(bT (row w' (R'.getD i 0)) (R'.getD ((i+1)%R'.length) 0)).idxOf (R'.getD (bS R' i) 0)=(rj (row w' (R'.getD i 0)) (R'.getD ((i+1)%R'.length) 0)).idxOf (R'.getD (bS R' i) 0)+1:=by
  rw [et,rF,eb];rfl
 have pl:=gN.mpr pm;have rll:=uS nm
 have ef:(.lst (cutD ((bT (row w' (R'.getD i 0)) (R'.getD ((i+1)%R'.length) 0)).map af) (some (1:Int)) (some (((bT (row w' (R'.getD i 0)) (R'.getD ((i+1)%R'.length) 0)).idxOf (R'.getD (bS R' i) 0):Nat):Int))):D)=ao (withinL w' R' i):=by
  have:=wx (bT (row w' (R'.getD i 0)) (R'.getD ((i+1)%R'.length) 0)) 1 ((bT (row w' (R'.getD i 0)) (R'.getD ((i+1)%R'.length) 0)).idxOf (R'.getD (bS R' i) 0)) (by omega) (by rw [m8,ei];omega)
  rw [wu,show (some (1:Int))=some ((1:Nat):Int) from rfl,this,ei,et,List.take_succ_cons,qq];rfl
 rw [←ef] at q;exact q
end oh
namespace L2
open PySem PySem.Spec PyProof.Rows
theorem xh{α:Type}:∀l:List α,(List.range l.length).filterMap (l[·]?)=l
 | []=>rfl
 |a::l=>by
  rw [dh,List.range_succ_eq_map,yA];show a::(((List.range l.length).map Nat.succ).filterMap ((a::l)[·]?))=a::l;rw [List.filterMap_map];exact congrArg (a::·) (xh l)
theorem kH{α β:Type}{f g:α→Option β}:∀{l:List α},(∀x∈l,f x=g x)→l.filterMap f=l.filterMap g
 | [],_=>rfl
 |a::l,h=>by
  rw [yA,yA,h a (cB ..),kH λx hx=>h x (cI _ hx)]
theorem uY(its:List Value):slicePick its.toArray none none (some (-1))=its.reverse.toArray:=by
 unfold slicePick
 congr 1
 have e:sliceRange (sliceBounds none none (some (-1)) its.toArray.size).1 (sliceBounds none none (some (-1)) its.toArray.size).2.1 (sliceBounds none none (some (-1)) its.toArray.size).2.2=(List.range its.length).map λk=>its.length-1-k:=by
  rw [b8];unfold sliceRange sliceBounds;simp only [Option.getD_some];have c:¬((-1:Int)>0):=by decide
  simp only [if_neg c]
  by_cases h:its.length=0
  ·rw [h];rfl
  ·rw [if_pos (by omega),show ((its.length:Int)-1- -1- -1-1) / (- -1)=(its.length:Int) by rw [show (- -1:Int)=1 from rfl,Int.ediv_one];omega]
   rw [vJ];apply AE;intro k hk
   have:=bH.mp hk
   omega
 rw [e,List.filterMap_map];have p:=xh its.reverse;rw [qx] at p;rw [←p];apply kH;intro k hk;have hk:=bH.mp hk;rw [List.getElem?_reverse hk];simp
section
variable {X:Cx} {e k:Expr} {te tk:TE} {pos p2:Pos}
def PF(K:PySem.W.Frag)(te tk:TE):TE:=λσ H Q=>te σ H λx H1=>tk σ H1 λc H2=>c= .int (-1)∧∃a xs,x= .ref a∧cp K H2 a xs∧∀p,H2 p=none→Q (.ref p) (upd H2 p (.lst xs.reverse))
theorem Jc(he:PE X e te)(hk:PE X k tk):PE X (.Subscript e (.Slice none none (some k) p2) pos) (PF X.K te tk):=by
 intro pins s σ H Q I h;refine Subscript_ (thn (he pins s σ H _ I h) λv s1 ⟨x,H1,I1,r1,q1⟩=>?_);refine wpAny_Slice ?_;rw [evalPart_none];refine wpAny_pure ?_;refine wpAny_pure ?_;rw [evalPart_some];refine thn (hk pins s1 σ H1 _ I1 q1) λvk s3 ⟨c,H3,I3,rk,q3⟩=>?_;obtain ⟨rfl,a,xs,rfl,hx,q⟩:=q3;obtain ⟨t,rfl⟩:=rk;have I4:Inv X pins σ H3 {s3 with heap:=s3.heap.push {cls:= .type "slice",data:= .fields #[.none, .none, .int (-1) t]}}:=I3.kept (t':=s3.toks) λb ob q=>Heap.get?_push_of_some _ q
 cases r1;obtain ⟨its,r,ht,hz⟩:=I4.list hx;have hlen:=r.length;show wpAny (model X.prog X.w) X.A (subscriptTail e (.Slice none none (some k) p2) (.ref a) (.ref s3.heap.objs.size)) (EP X pins σ Q) X.xe {s3 with heap:=s3.heap.push {cls:= .type "slice",data:= .fields #[.none, .none, .int (-1) t]}}
 refine tail_any (ops:= [.ref a, .ref s3.heap.objs.size]) ht.isList.typeIs slot_list_getitem.lookup ?_ (by with_unfolding_all rfl)
 refine wpAny_getItem_list_slice ht.isList (Heap.IsSliceOf.new ..) .none .none (.int (-1) t) (by decide) ?_ (by rw [b8]<;>omega)
 rw [uY];refine ⟨.ref _,_,I4.laid (t':=s3.toks) (o:= .lst xs.reverse) (λb ob q=>Heap.get?_push_of_some _ q) (bx _) ?_,rfl,q _ (I4.hok.fresh (bx _))⟩;exact ⟨by rw [qx];exact hz,_,0,r.reverse,Heap.get?_push_size _ rfl⟩
end
section
variable {Z:DC} {X:Cx} {md:List Nat} {rn:Nat} {e e2 k:Expr} {es:List Expr} {pos p2 apos aR:Pos} {te tk tp:aT} {t u:lA}
def NG(te tk:aT):aT:=λρ P=>te ρ λx=>∃l,x= .lst l∧tk ρ λc=>c= .int (-1)∧P (.lst l.reverse)
theorem EF{G:Hp}:∀{vs:List V}{ds:List D},ar Z G vs ds→ar Z G vs.reverse ds.reverse
 |_,_, .nil=> .nil
 |_,_, .cons a as=>by
  rw [vH,vH];exact (EF as).append (.cons a .nil)
theorem Hw(he:DE Z X e te)(hk:DE Z X k tk)(eK:X.K=Z.K:=by rfl):DE Z X (.Subscript e (.Slice none none (some k) p2) pos) (NG te tk):=by
 refine (Jc he hk).imp ?_;rintro σ H Q ⟨G,ρ,P,s,en,h,q⟩;refine ⟨G,ρ,_,s,en,h,?_⟩;rintro _ ⟨l,rfl,h⟩ v G1 H1 x1 dv;refine ⟨G1,ρ,_,x1.sub,en.mono x1.gg,h,?_⟩;rintro _ ⟨rfl,hp⟩ v2 G2 H2 x2 yZ;cases yZ;obtain ⟨p1,JZ,rfl,h1,e1⟩:=dv.iL;have NP:=e1.mono x2.gg;exact ⟨rfl,p1,JZ,rfl,cp.of (x2.hh _ _ (x1.sub _ _ h1)),λp hn=>q _ hp _ _ _ ((x1.trans x2).trans (.new x2.sub hn)) (.lst ax ((EF NP).mono (aQ (x2.sub.free hn) _)))⟩
def Ke(t u:lA):dW:=λE ρ=>t ρ λa=>u ρ λb=>E.rt (.tup [.lst a, .lst b])
theorem FH{x1}(ha:DF Z X 1 e t)(hb:DF Z X 1 e2 u)(hs:starEach [e,e2] X.env=(false,eval e X.env)::starEach [e2] X.env:=by rfl)(iI:starEach [e2] X.env=(false,eval e2 X.env)::starEach [] X.env:=by rfl):DSt Z X md 2 (.Return (some (.Tuple [e,e2] x1 p2)) pos) (Ke t u):=(zI (E5 (dO ha (dO hb ig iI) hs))).imp λD σ H ⟨B,ρ,E,⟨G,fp,S⟩,h,M⟩=>by
 let F:Addr→Prop:=λb=>∃i,b∈fp i
 have s:=S.ex.sub
 have x0:Ext B.G₀ B.H₀ (plus G H F) H:=⟨S.ex.gg.trans (fF s),gw s,S.ex.hh,λb hb hg=>by
  rw [iy (λ⟨i,hi⟩=>hb (S.nw i b hi).1)];exact S.ex.off b hb hg⟩
 have en:cL Z (plus G H F) σ ρ:=⟨S.len,λi d h=>by
  obtain ⟨v,hv,o⟩:=S.at_ i d h;exact ⟨v,hv,o.dv (fF s) λb hb u e=>by rw [jQ ⟨i,hb⟩];exact e⟩⟩
 refine ⟨plus G H F,ρ,_,gw s,en,h,λa ha v1 f1 G1 H1 x1 o1 uB OU=>?_⟩;refine ⟨G1,ρ,_,x1.sub,en.mono x1.gg,ha,λb hb v2 f2 G2 H2 x2 o2 sP OV=>?_⟩;refine ⟨by show 2≤sizeLine;decide,λp hp=>?_⟩
 have x3:Ext G2 H2 (upd G2 p (.tup [v1,v2])) (upd H2 p (.tup [v1,v2])):= .new x2.sub hp
 have k1:∀c∈f1,upd H2 p (.tup [v1,v2]) c=H1 c:=λc hc=>by
  cases e:H1 c with
  |none=>exact absurd e (OU c hc).2.1
  |some o=>exact x3.hh _ _ (x2.hh _ _ e)
 have k2:∀c∈f2,upd H2 p (.tup [v1,v2]) c=H2 c:=λc hc=>by
  cases e:H2 c with
  |none=>exact absurd e (OV c hc).2.1
  |some o=>exact x3.hh _ _ e
 refine M.rt _ hb _ (f1++f2) _ _ (((x0.trans x1).trans x2).trans x3) (.inr (.inl ⟨by decide,p,[v1,v2],_,rfl,rfl,ax,?_⟩)) ?_ λc hc=>?_
 ·have:=f7.cons (R:=λv d f=>(KH d=true∧Own Z (upd G2 p (.tup [v1,v2])) (upd H2 p (.tup [v1,v2])) 1 v d f)∨(KH d=false∧Dv Z (upd G2 p (.tup [v1,v2])) v d∧f= [])) (.inl ⟨rfl,o1.keep (x2.gg.trans x3.gg) k1⟩) (f7.cons (.inl ⟨rfl,o2.keep x3.gg k2⟩) f7.nil)
  rw [hJ] at this;exact this
 ·exact fe.mpr ⟨uB,sP,λa ha b hb z=>(OU a ha).2.1 (by rw [z];exact (OV b hb).1)⟩
 ·rcases cv.mp hc with hc|hc
  ·obtain ⟨q1,q2,q3⟩:=OU c hc
   exact ⟨x0.hh.free q1,by rw [k1 c hc];exact q2,x3.off c (dQ x2.hh q2) (x2.off c q2 q3)⟩
  ·obtain ⟨q1,q2,q3⟩:=OV c hc
   exact ⟨x0.hh.free (x1.hh.free q1),by rw [k2 c hc];exact q2,x3.off c q2 q3⟩
end
theorem e8.ok{P:Program}{w:World}{H:Hp}{h:Heap}{a:Addr}{b:Bool}{ns:List Int}(x:e8 b a ns h):cV P w H h a (.ext (e8 b a ns)):=by
 refine ⟨x,let ⟨o,_,_,_,ho,_⟩:=x;⟨o,ho⟩,λh1 h2 p k=>?_⟩;obtain ⟨o,es,ep,t,ho,r⟩:=p;exact ⟨o,es,ep,t,k o ho,r⟩
theorem rH.elems{P:Program}{w:World}{es:Array (Int×Value)}{ns:List Int}(i:rH es ns):ElemsOf (intKind P w) es.toList:=λe he=>by
 obtain ⟨k,t,rfl⟩:=i.1 e he;exact ⟨⟨k,by simp [intKind,Value.isInt],rfl⟩,rfl⟩
theorem wU:∀{es:List (Int×Value)}{ms:List Int},(∀e∈es,∃k t,e=(hashInt k,Value.int k t))→IntsAre (es.map (·.2)) ms→∀k,k∈ms↔∃e∈es,Value.isInt k e.2=true
 | [],_,_,h,k=>by cases h;simp
 |e::es,ms,ha,h,k=>by
  obtain ⟨j,t,rfl⟩:=ha e (cB ..);cases h with
  |cons n t' h=>
   have ih:=wU (λe he=>ha e (cI _ he)) h k;rw [cn,ih]
   constructor
   ·rintro (rfl| ⟨e,he,q⟩)
    ·exact ⟨_,cB ..,by simp [Value.isInt]⟩
    ·exact ⟨e,cI _ he,q⟩
   ·rintro ⟨e,he,q⟩
    rcases cn.mp he with rfl|he
    ·left;simp [Value.isInt] at q;exact q.symm
    ·exact .inr ⟨e,he,q⟩
theorem rH.mem{P:Program}{w:World}{es:Array (Int×Value)}{ns:List Int}(i:rH es ns)(k:Int):k∈ns↔∃e∈es.toList,(intKind P w).is k e.2=true:=by
 obtain ⟨a,_,ms,b,c⟩:=i;rw [←c.mem_iff];exact wU a b k
theorem wR:∀{vs:List Value}{ms:List Int},IntsAre vs ms→vs.length=ms.length
 |_,_, .nil=>rfl
 |_,_, .cons _ _ h=>congrArg (·+1) (wR h)
theorem rH.size{es:Array (Int×Value)}{ns:List Int}(i:rH es ns):es.size=ns.length:=by
 obtain ⟨_,_,ms,b,c⟩:=i;rw [←c.length_eq,←wR b,aK,dA]
theorem _root_.PySem.gz.JC{b:Bool}{o:Obj}{es:Array (Int×Value)}{ep:Nat}{t:SetTable}(S:gz b o es ep t):es.size≤306:=by
 have:=S.few
 rcases S.tok.few with h|h|h|h<;>omega
theorem e8.setOf{P:Program}{w:World}{h:Heap}{a:Addr}{b:Bool}{ns:List Int}(x:e8 b a ns h):h.SetOf (intKind P w) a (λk=>decide (k∈ns)) ns.length:=by
 obtain ⟨o,es,ep,t,ho,S,i⟩:=x;refine ⟨o,es,ep,t,ho,S.ex,S.dat,i.elems,λk=>?_,?_,S.fits,i.size⟩
 ·rw [decide_eq_true_eq];exact i.mem k
 ·have:=S.JC
  show es.size<4096;omega
def wQ(ns:List Int)(k:Int):List Int:=if k∈ns then ns else ns++ [k]
section
variable {X:Cx}
theorem Inv.Fj{pins:List (Addr×Obj)}{σ:St}{H:Hp}{s:Shared}{a:Addr}{b:Bool}{ns:List Int}(I:Inv X pins σ H s)(h:H a=some (.ext (e8 b a ns))):e8 b a ns s.heap:=(I.hok a _ h).1
theorem Jd{p pos:Pos}(hg:Gl X "set")(hm:X.mg "set"=none):PE X (.Call (.Name "set" p) [] [] pos) (λσ H Q=>∀q,H q=none→Q (.ref q) (upd H q (.ext (e8 (eC X.w) q [])))):=by
 intro pins s σ H Q I h;refine wpAny_Call_Name_kw (ic I hg hm (u:= .type "set") (by decide+kernel) ?_ (by decide) (by decide))
 refine PyProof.Rows.callWith_type rfl (PyProof.Rows.evalArgs_nil3 (yN ?_));have hn:=I.hok.fresh (bx _);refine ⟨.ref s.heap.objs.size,_,I.laid (t':=s.toks) (λb o e=>Heap.get?_push_of_some _ e) (bx _) (o:= .ext (e8 (eC X.w) s.heap.objs.size [])) (e8.ok ⟨_,_,_,_,Heap.get?_push_size _ rfl,gz.new X.w,?_⟩),rfl,h _ hn⟩;exact ⟨λe he=>by simp at he,kW,[],by simpa using IntsAre.nil, .refl _⟩
theorem DL:OpR X (compareOp .NotIn) (λx y H Q=>∃k p b ns,x= .int k∧y= .ref p∧H p=some (.ext (e8 b p ns))∧Q (.bl (!decide (k∈ns))) H):=by
 intro pins s σ H x y v u Q I rx ry h;obtain ⟨k,p,b,ns,rfl,rfl,hp,q⟩:=h;obtain ⟨t,rfl⟩:=rx;cases ry;exact wpAny_notInSet_of (knd:=intKind X.prog X.w) (k:=k) (by simp [intKind,Value.isInt]) rfl (I.Fj hp).setOf ⟨.bl _,H,I.tok _,rfl,q⟩
def Ph(w:World):V→List V→Hp→VK→Prop:=λx vs H Q=>∃l b ns k,x= .ref l∧vs= [.int k]∧H l=some (.ext (e8 b l ns))∧b=eC w∧ns.length≤300∧Q .bf (upd H l (.ext (e8 b l (wQ ns k))))
theorem ID:GV X "set.add" (Ph X.w):=by
 intro pins s σ H x vs v us Q I rx rv h;obtain ⟨l,b,ns,k,rfl,rfl,hl,rfl,hz,q⟩:=h;cases rx;obtain ⟨u,rfl,ru⟩:=rv.one;obtain ⟨tk,rfl⟩:=ru;obtain ⟨o,es,ep,t,ho,S,i⟩:=I.Fj hl;have hT:s.TypeIs (.ref l) "set":=⟨o,ho,S.ex.1⟩;refine wpAny_call_entry F.slot_set_add hT F.entry_set_add ?_ (F.args_set_add_2 _ _);unfold Builtin.«set.add» Builtin.Frozenset.oneOther;simp only [List.isEmpty_nil,bind_assoc];unfold Builtin.Frozenset.addrOf setAdd;refine wpAny_bind (wpAny_pure ?_)
 try dsimp only
 refine wpAny_bind (wpAny_pure ?_)
 try dsimp only
 refine wpAny_bind ?_;refine wpAny_holding ?_;have hk:(intKind X.prog X.w).is k (.int k tk)=true:=by simp [intKind,Value.isInt]
 refine wpAny_bind ((intKind X.prog X.w).pyHash hk ?_);refine Ao (s:={s with toks:=s.toks+1}) ho S i.elems hk (by rw [i.size];omega) (λhm=>?_) λnm h' o' jn CH t' sb lg S' pm=>?_
 ·show wpAny _ _ (ret Value.none) _ _ _
  have pL:k∈ns:=(i.mem k).mpr hm;rw [wQ,if_pos pL] at q
  have e:upd H l (.ext (e8 (eC X.w) l ns))=H:=by
   funext c
   by_cases z:c=l
   ·subst z;rw [ax];exact hl.symm
   ·rw [aF z]
  rw [e] at q;exact wpAny_pure ⟨_,rfl, .bf,H,I.tok _,rfl,q⟩
 ·show wpAny _ _ (ret Value.none) _ _ _
  have pL:k∉ns:=λz=>nm ((i.mem k).mp z);rw [wQ,if_neg pL] at q
  have i':rH jn (ns++ [k]):=by
   obtain ⟨a1,a2,ms,a3,a4⟩:=i;refine ⟨λe he=>?_,?_,?_⟩
   ·rcases cv.mp (pm.mem_iff.mp he) with h|h
    ·exact a1 e h
    ·rw [fL] at h;exact ⟨k,tk,h⟩
   ·rw [fe]
    refine ⟨a2,by simp,λx hx y hy z=>pL ?_⟩
    rw [fL] at hy;rw [←hy,←z];exact hx
   ·have a5:IntsAre ((es.toList++ [((intKind X.prog X.w).hash k,Value.int k tk)]).map (·.2)) (ms++ [k]):=by
     rw [dr];clear a4 pm;generalize es.toList.map (·.2)=vs at a3
     induction a3 with
     |nil=>exact .cons k tk .nil
     |cons n t _ ih=>exact .cons n t ih
    obtain ⟨Z6,b1,b2⟩:=um (pm.map (·.2)) a5;exact ⟨Z6,b1,b2.trans (a4.append_right _)⟩
  have I':=I.write (h':=h') (t':=s.toks+1) (x:=l) (e:=l) (o:= .ext (e8 (eC X.w) l (ns++ [k]))) (by rw [hl];trivial) (.inl rfl) (λb u hb e=>sb.extBut b u hb e) ⟨o',lg⟩ (e8.ok ⟨o',jn,CH,t',lg,S',i'⟩)
  exact wpAny_pure ⟨_,rfl, .bf,_,I',rfl,q⟩
def Vn(r:V→List V→Hp→VK→Prop)(to:TE)(t:TA):TE:=λσ H Q=>to σ H λx H1=>(∃p b ns,x= .ref p∧H1 p=some (.ext (e8 b p ns)))∧t σ H1 λxs H2=>r x xs H2 Q
variable {o e:Expr} {es:List Expr} {to:TE} {t:TA} {name:Str} {apos aR:Pos} {id:String} {r:V→List V→Hp→VK→Prop}
theorem Lk(pa:PlainAttrs "set")(slot:Slot "set" name id)(Ie:typeOf (.builtin id)=pure (.type "method_descriptor"))(hm:GV X id r)(ho:PE X o to)(ha:PA X (e::es) t)
  (dE:attributeBase o name X.env (eval o X.env)=eval o X.env:=by rfl)
  (iH:((backTo aR (starEach (e::es) X.env)).all (λx=>!x.1)&&(backToKw aR (keywordEach [] X.env)).all (λx=>x.1.isSome)
   &&decide ((e::es).length+([]:List Keyword).length+(if ([]:List Keyword).isEmpty then 0 else 1)<30))=true:=by rfl)
  (cz:(apos.endLine==aR.line)=true:=by rfl) (hs:starEach (e::es) X.env=(false,eval e X.env)::starEach es X.env:=by rfl) (dF:(backTo aR (starEach es X.env)).any (·.1)=false:=by rfl):
  PE X (.Call (.Attribute o name apos) (e::es) [] aR) (Vn r to t):=by
 intro pins s σ H Q I h;refine wpAny_Call_method_late dE iH cz rfl (thn (ho pins s σ H _ I h) λv s1 ⟨x,H1,I1,r1,ty,q1⟩=>?_);obtain ⟨p,b,ns,rfl,hp⟩:=ty;cases r1;obtain ⟨oo,_,_,_,Sg,S,_⟩:=I1.Fj hp;refine ⟨"set",id,pa,slot,Ie,⟨oo,Sg,S.ex.1⟩,λa ea=>?_,?_⟩
 ·cases ea;exact ⟨oo,Sg,S.ex.2.1⟩
 have hA:=ha aR pins s1 σ H1 _ I1 q1;rw [hs] at hA ⊢;refine Calls.callWith_builtin (by show (false|| (backTo aR (starEach es X.env)).any (·.1))=false;rw [dF]<;>rfl) (Calls.evalArgs_plain ?_)
 exact thn hA λus s2 ⟨vs,H2,I2,r2,q2⟩=>hm pins s2 σ H2 (.ref p) vs (.ref p) us Q I2 rfl r2 q2
theorem vV(hc:X.calm=true):dU X (.builtin "sorted") (λxs H Q=>∃(p:Addr)(ns:List Int),xs= [.ref p]∧H p=some (.ext (e8 (eC X.w) p ns))∧ns.length<64∧∀(q:Addr)(ms:List Int),H q=none→ms.Perm ns→ms.Pairwise (·≤·)→Q (.ref q) (upd H q (.lst (ms.map V.int)))):=by
 intro pins s σ H xs us Q I rv h;obtain ⟨p,ns,rfl,hp,hz,q⟩:=h;obtain ⟨u,rfl,ru⟩:=rv.one;cases ru;obtain ⟨o,es,ep,t,ho,S,i⟩:=I.Fj hp;obtain ⟨_,_,ms0,i1,i2⟩:=id i;refine B4 (I.ok.hd hc) ho S i1 (by rw [i.size];exact hz) λh' tk c out e ms old le hg hI pm nG=>?_
 have fr:H c=none:=I.hok.fresh le;have cz:64≤sizeLine:=by decide
 have FW:=(pm.trans i2).length_eq;exact ⟨.ref c,_,I.laid (t':=tk) old le (o:= .lst (ms.map V.int)) ⟨by rw [aK];omega,out.toList,e,kE hI,by simpa using hg⟩,rfl,q c ms fr (pm.trans i2) nG⟩
end
section
variable {Z:DC} {X:Cx} {B:Bs} {md:List Nat} {rn:Nat} {ρ:DN} {σ:St} {H G:Hp} {fp:Nat→List Addr} {a e k o:Expr} {ta te tk tp:aT} {pos apos aR p2:Pos}
def QV(neg:Bool):fP:=λa b P=>∃k bb ns,a= .int k∧b= .set bb ns∧P (.bl (if neg=true then !decide (k∈ns) else decide (k∈ns)))
theorem DD:OpR X (compareOp .NotIn) (bP Z (QV true)):=by
 refine DL.imp ?_;rintro x y H Q ⟨G,a,b,P,s,da,db,⟨k,bb,ns,rfl,rfl,h⟩,q⟩;cases da;cases db with
 |set hp=>exact ⟨k,_,_,ns,rfl,rfl,s _ _ hp,q _ h _ G H (.refl s) (.bl _)⟩
def J9(w:World):dD:=λds P=>∃ns:List Int,ds= [.set (eC w) ns]∧ns.length<64∧∀ms:List Int,ms.Perm ns→ms.Pairwise (·≤·)→P (.lst (ms.map D.int))
theorem Fz(hc:X.calm=true):dU X (.builtin "sorted") (kd Z (J9 X.w)):=by
 refine (vV hc).imp ?_;rintro xs H Q ⟨G,ds,P,s,dv,⟨ns,rfl,hl,hp⟩,q⟩;cases dv with
 |cons a as=>
  cases as;cases a with
  |set h=>
   refine ⟨_,ns,rfl,s _ _ h,hl,λp ms hn h1 h2=>?_⟩;exact q _ (hp ms h1 h2) _ _ _ (.new s hn) (.lst ax (.ints ms))
def NI(w:World)(i:Nat):dW:=λE ρ=>E.nx (ρ.set i (some (.set (eC w) [])))
theorem HD(i:Nat){x:Str}{pos' p:Pos}(hN:X.N.Nodup)(hg:Gl X "set")(C0:X.mg "set"=none)(hm:md.getD i 0=99:=by rfl)(hi:X.N[i]? =some x:=by rfl)(hx:Loc X.env.scope x:=by first|exact Or.inl rfl|exact Or.inr rfl)(hs:swapsWith (.Call (.Name "set" p) [] [] p2) (some (.Name x pos')) pos.line X.env=pure false:=by rfl)
  (hf:X.fn x=true∨X.env.scope.names.lookup x=some .local:=by first|exact .inl rfl|exact .inr rfl|assumption):DSt Z X md rn (.Assign [.Name x pos'] (.Call (.Name "set" p) [] [] p2) pos) (NI X.w i):=by
 refine (qb hN hi hx (Jd hg C0) hs hf).imp ?_;rintro D σ H ⟨B,ρ,E,⟨G,fp,S⟩,h,M⟩;intro c hc;have gc:G c=none:=S.ex.sub.free hc;have x:Ext G H G (upd H c (.ext (e8 (eC X.w) c []))):=⟨.refl _,S.ex.sub.trans (aQ hc _),aQ hc _,λ_ _ z=>z⟩;refine M.nx _ h _ _ ⟨G,_,(S.grow x).JA hm (f:= [c]) (.inr (.inr ⟨rfl,c,_,[],rfl,rfl,ax,rfl⟩)) (by simp) (λb hb=>?_) λb hb j _ hj=>?_⟩
 ·rw [fL] at hb;subst hb
  exact ⟨S.ex.hh.free hc,(by rw [ax];exact λz=>nomatch z),gc⟩
 ·rw [fL] at hb;subst hb
  exact (S.nw j _ hj).2.1 hc
def Nu(w:World)(md:List Nat)(m:Bool)(i:Nat)(te:aT):dW:=λE ρ=>∃ns,ρ[i]? =some (some (.set (eC w) ns))∧te (Ej md m ρ) λd=>∃k,d= .int k∧ns.length≤300∧E.nx (ρ.set i (some (.set (eC w) (wQ ns k))))
theorem HC(m:Bool)(i:Nat){x:Str}{px:Pos}(he:DE Z X e te)(hm:md.getD i 0=99:=by rfl)(hi:X.N[i]? =some x:=by rfl)(hv:sH X.env.scope x:=by first|exact Or.inl rfl|exact Or.inr (Or.inl rfl) |exact Or.inr (Or.inr rfl))(hd:(x==("__debug__":Str))=false:=by decide)(fT:(x==("__classdict__":Str))=false:=by decide)
  (dE:attributeBase (.Name x px) "add" X.env (eval (.Name x px) X.env)=eval (.Name x px) X.env:=by rfl)
  (iH:((backTo aR (starEach [e] X.env)).all (λx=>!x.1)&&(backToKw aR (keywordEach [] X.env)).all (λx=>x.1.isSome)&&decide (([e]:List Expr).length+([]:List Keyword).length+(if ([]:List Keyword).isEmpty then 0 else 1)<30))=true:=by rfl)
  (cz:(apos.endLine==aR.line)=true:=by rfl) (hs:starEach [e] X.env=(false,eval e X.env)::starEach [] X.env:=by rfl) (dF:(backTo aR (starEach [] X.env)).any (·.1)=false:=by rfl)
  (j7:swapsWith (.Call (.Attribute (.Name x px) "add" apos) [e] [] aR) none pos.line X.env=pure false:=by rfl):
  DSt Z X md rn (.Expr (.Call (.Attribute (.Name x px) "add" apos) [e] [] aR) pos) (Nu X.w md m i te):=by
 refine (qa (Lk PySem.F.plainAttrs_set PySem.F.slot_set_add PySem.F.type_set_add ID (pv i hi hv hd fT) (dO he ig hs) dE iH cz hs dF) j7).imp ?_;rintro D σ H ⟨B,ρ,E,⟨G,fp,S⟩,⟨ns,h1,h⟩,M⟩;obtain ⟨v0,Ig,o0⟩:=S.at_ i _ h1;rw [hm] at o0;obtain ⟨l,rfl,hl,_⟩:=o0.MT;refine ⟨_,Ig,⟨l,_,_,rfl,hl⟩,S.ev m h λd hd=>?_⟩;obtain ⟨k,rfl,hz,hn⟩:=hd;refine ⟨by cases m<;>trivial,λv G' H' S' x dv=>?_⟩
 cases dv;obtain ⟨v1,Sr,o1⟩:=S'.at_ i _ h1;rw [Ig] at Sr;cases Sr;rw [hm] at o1;obtain ⟨l',e',XH,Ku⟩:=o1.MT;cases e';refine ⟨l,_,ns,k,rfl,rfl,XH,rfl,hz,M.nx _ hn _ _ ⟨G',fp,S'.mut Ig (b:=l) (by rw [Ku];simp) ?_⟩⟩
 rw [hm,Ku];exact .inr (.inr ⟨rfl,l,_,_,rfl,rfl,ax,rfl⟩)
def QU(md:List Nat)(i:Nat)(te:aT):dW:=λE ρ=>∃ds,ρ[i]? =some (some (.lst ds))∧te (dH md ρ) λd=>∃zs,d= .lst zs∧ds.length+zs.length≤sizeLine∧E.nx (ρ.set i (some (.lst (ds++zs))))
theorem Kj(i:Nat){x:Str}{px:Pos}(he:DE Z X e te)(hm:md.getD i 0=1:=by rfl)(hi:X.N[i]? =some x:=by rfl)(hv:sH X.env.scope x:=by first|exact Or.inl rfl|exact Or.inr (Or.inl rfl) |exact Or.inr (Or.inr rfl))(hd:(x==("__debug__":Str))=false:=by decide)(fT:(x==("__classdict__":Str))=false:=by decide)
  (dE:attributeBase (.Name x px) "extend" X.env (eval (.Name x px) X.env)=eval (.Name x px) X.env:=by rfl)
  (iH:((backTo aR (starEach [e] X.env)).all (λx=>!x.1)&&(backToKw aR (keywordEach [] X.env)).all (λx=>x.1.isSome)&&decide (([e]:List Expr).length+([]:List Keyword).length+(if ([]:List Keyword).isEmpty then 0 else 1)<30))=true:=by rfl)
  (cz:(apos.endLine==aR.line)=true:=by rfl) (hs:starEach [e] X.env=(false,eval e X.env)::starEach [] X.env:=by rfl) (dF:(backTo aR (starEach [] X.env)).any (·.1)=false:=by rfl)
  (j7:swapsWith (.Call (.Attribute (.Name x px) "extend" apos) [e] [] aR) none pos.line X.env=pure false:=by rfl):
  DSt Z X md rn (.Expr (.Call (.Attribute (.Name x px) "extend" apos) [e] [] aR) pos) (QU md i te):=by
 refine (qa (uN PySem.F.plainAttrs_list PySem.F.slot_list_extend PySem.F.type_list_extend Dr (pv i hi hv hd fT) (dO he ig hs) dE iH cz hs dF) j7).imp ?_;rintro D σ H ⟨B,ρ,E,⟨G,fp,S⟩,⟨ds,h1,h⟩,M⟩;obtain ⟨l,xs,_,_,e2,e3,_⟩:=S.one hm h1;refine ⟨_,e2,ty_list e3,S.ev false h λd hd=>⟨trivial,λv G' H' S' x dv=>?_⟩⟩;obtain ⟨zs,rfl,h2,h3⟩:=hd;obtain ⟨l',oX,pj,e1,iX,sM,bo,put⟩:=S'.one hm h1;cases e1;rw [e2] at iX;cases iX;cases dv with
 | @lst b ys _ hb dz=>
  exact ⟨l,b,oX,ys,rfl,rfl,sM,S'.ex.sub _ _ hb,by rw [bo.length,dz.length];exact h2,M.nx _ h3 _ _ ⟨G',fp,put _ _ (bo.append dz)⟩⟩
end
section
variable {Z:DC} {X:Cx} {md:List Nat} {rn:Nat} {elt t0 i0 t1 i1:Expr} {f0 f1:List Expr} {scope:Scope} {pos:Pos} {wi cH:gy} {g g1:di} {tt cg:cU} {te:aT} {src:List (Option Nat)} {NC:List Str}
def Mw(wi:gy)(g:di)(tt:cU)(cH:gy)(g1:di)(cg:cU)(te:aT)(src:List (Option Nat)):lA:=λρ P=>wi ρ λds=>g7 g tt cH g1 cg te ds (u4 src ρ) [] λout=>P out
theorem F6:∀σ H Q,ux Z 1 (Mw wi g tt cH g1 cg te src) σ H Q→JQ (oJ Z wi) (lX Z g) (liftT Z tt) (oJ Z cH) (lX Z g1) (liftT Z cg) (cX Z te) src σ H Q:=by
 rintro σ H Q ⟨G,ρ,P,s,en,h,q⟩;refine ⟨G,ρ,_,s,en,h,λds hd J G1 H1 x1 it Ad hA=>?_⟩;refine ⟨λi m dY H2=>m=ds.length-i∧i≤ds.length∧∃cq acc,CS Z G1 H1 Ad cq acc dY H2∧g7 g tt cH g1 cg te (ds.drop i) cq acc λout=>P out,⟨_,rfl,cw _,_,[], .begin x1.sub hA ((en.mono x1.gg).src src),hd⟩,?_⟩;rintro i m dY H2 ⟨rfl,hi,cq,acc,c,hl⟩
 by_cases bN:i<ds.length
 ·have c0:=c
  obtain ⟨G2,ys,s1,s2,s3,off,gA,j6,bo,NS⟩:=c;obtain ⟨go,_,yld⟩:=it G2 H2 s1 s2 i;refine .inr ⟨go bN,λaw H'=>∃aA bV,CS Z G1 H1 Ad aA bV aw H'∧g7 g tt cH g1 cg te (ds.drop (i+1)) aA bV λout=>P out,λaw H' n=>⟨ds.length-(i+1),by omega,rfl,bN,n⟩,λx H3 y=>?_⟩
  obtain ⟨G3,d,x3,HV,dv⟩:=yld x H3 bN y;rw [jD HV] at hl;refine ⟨G3,cq,d,_,x3.sub,NS.mono x3.gg,dv,hl,λaU h1 eF pC=>?_⟩;refine ⟨G3,aU,_,x3.sub,pC,h1,λb hb G5 H5 x5=>?_⟩;have gM:=x3.trans x5;have pU:∀{G jY:Hp},Ext G2 H2 G jY→G Ad=none:=λx=>x.off Ad (by rw [j6];exact λz=>nomatch z) gA
  have jN:∀{G jY:Hp},Ext G2 H2 G jY→∀b,H1 b≠none→G1 b=none→G b=none:=λx b h1 h2=>x.off b (dQ s3 h1) (off b h1 h2);cases b with
  |false=>exact cF ⟨aU,acc,⟨G5,ys,s1.trans gM.gg,gM.sub,s3.trans gM.hh,jN gM,pU gM,gM.hh _ _ j6,bo.mono gM.gg,pC.mono x5.gg⟩,by simpa using hb⟩
  |true=>
   refine cM ⟨G5,aU,_,x5.sub,pC.mono x5.gg,(by simpa using hb),λes Oq J1 G6 H6 x6 Bv=>?_⟩
   have x:=gM.trans x6;have c6:CS Z G6 H6 Ad aU acc eF H6→True:=λ_=>trivial
   refine ⟨λk m mS H7=>m=es.length-k∧k≤es.length∧∃(vM:DN)(lG:List D),(∃(G:Hp)(ys:List V),aH G6 G∧aH G H7∧aH H1 H7∧(∀b,H1 b≠none→G1 b=none→G b=none)∧G Ad=none∧H7 Ad=some (.lst ys)∧ar Z G ys lG∧cL Z G mS vM)∧
    lcW g1 cg te (es.drop k) vM lG λcq jB=>g7 g tt cH g1 cg te (ds.drop (i+1)) cq jB λout=>P out,
    ⟨_,rfl,cw _,aU,acc,⟨G6,ys, .refl _,x.sub,s3.trans x.hh,jN x,pU x,x.hh _ _ j6,bo.mono x.gg,(pC.mono x5.gg).mono x6.gg⟩,Oq⟩,?_⟩
   rintro k m mS H7 ⟨rfl,hk,vM,lG,⟨G7,Av,a1,a2,a3,a4,a5,a6,a7,a8⟩,zd⟩;have NZ:aH G1 G6:=s1.trans x.gg
   by_cases uh:k<es.length
   ·obtain ⟨N3,_,J0⟩:=Bv G7 H7 a1 a2 k
    refine .inr ⟨N3 uh,λaw H'=>∃(aA:DN)(bV:List D),(∃(G:Hp)(ys:List V),aH G6 G∧aH G H'∧aH H1 H'∧(∀b,H1 b≠none→G1 b=none→G b=none)∧G Ad=none∧H' Ad=some (.lst ys)∧ar Z G ys bV∧cL Z G aw aA)∧
     lcW g1 cg te (es.drop (k+1)) aA bV λcq jB=>g7 g tt cH g1 cg te (ds.drop (i+1)) cq jB λout=>P out,λaw H' n=>⟨es.length-(k+1),by omega,rfl,uh,n⟩,λy H8 hy=>?_⟩
    obtain ⟨G8,d8,x8,Ol,NN⟩:=J0 y H8 uh hy;rw [jD Ol] at zd;refine ⟨G8,vM,d8,_,x8.sub,a8.mono x8.gg,NN,zd,λAG h9 σ9 y1=>?_⟩;refine ⟨G8,AG,_,x8.sub,y1,h9,λb hb GK GL vt=>?_⟩;have xx:=x8.trans vt;have oA:∀{G jY:Hp},Ext G7 H7 G jY→G Ad=none:=λx=>x.off Ad (by rw [a6];exact λz=>nomatch z) a5
    have oB:∀{G jY:Hp},Ext G7 H7 G jY→∀b,H1 b≠none→G1 b=none→G b=none:=λx b h1 h2=>x.off b (dQ a3 h1) (a4 b h1 h2);cases b with
    |false=>exact cF ⟨AG,lG,⟨GK,Av,a1.trans xx.gg,xx.sub,a3.trans xx.hh,oB xx,oA xx,xx.hh _ _ a6,a7.mono xx.gg,y1.mono vt.gg⟩,by simpa using hb⟩
    |true=>
     refine cM ⟨GK,AG,_,vt.sub,y1.mono vt.gg,(by simpa using hb),λd' nE v M1 J4 JY HE=>?_⟩
     have xz:=xx.trans JY;refine ⟨Av,xz.hh _ _ a6,by rw [a7.length];exact nE.1,AG,_,⟨M1,Av++ [v],a1.trans xz.gg,λb o e=>?_,λb o e=>?_,oB xz,oA xz,ax,(a7.mono xz.gg).snoc HE,(y1.mono vt.gg).mono JY.gg⟩,nE.2⟩
     ·rw [aF (aW e (oA xz))];exact xz.sub _ _ e
     ·rw [aF (aW e hA)];exact (a3.trans xz.hh) _ _ e
   ·have e:es.drop k= []:=vB (by omega)
    rw [e] at zd;exact .inl ⟨(Bv G7 H7 a1 a2 k).2.1 (by omega),vM,lG,⟨G7,Av,NZ.trans a1,a2,a3,a4,a5,a6,a7,a8⟩,zd⟩
 ·have e:ds.drop i= []:=vB (by omega)
  rw [e] at hl;obtain ⟨G2,ys,s1,s2,s3,off,gA,j6,bo,en⟩:=c;refine .inl ⟨(it G2 H2 s1 s2 i).2.1 (by omega),q _ hl (.ref Ad) [Ad] G2 H2 ⟨x1.gg.trans s1,s2,x1.hh.trans s3,λb hb hg=>off b (dQ x1.hh hb) (x1.off b hb hg)⟩ (.inl ⟨Ad,ys,acc,[],rfl,rfl,j6,rfl,bo.own⟩) (by simp) λb hb=>?_⟩
  have:b=Ad:=by simpa using hb
  subst this;exact ⟨x1.hh.free hA,(by rw [j6];exact λz=>nomatch z),gA⟩
theorem CB(i:Nat){x:Str}{px gK:Pos}(hc:X.calm=true)(hN:X.N.Nodup)(c:bY X scope)(dZ:cP scope X.N src NC)(hi:DI Z X t0 i0 wi)
  (hg:∀ex s H,DG Z (cc X scope NC ex s H) t0 g) (ht:∀ex s H,vN Z (cc X scope NC ex s H) f0 tt) (sO:∀ex s H,DI Z (cc X scope NC ex s H) t1 i1 cH) (CW:∀ex s H,DG Z (cc X scope NC ex s H) t1 g1)
  (C5:∀ex s H,vN Z (cc X scope NC ex s H) f1 cg) (he:∀ex s H,DE Z (cc X scope NC ex s H) elt te)
  (j7:swapsWith (.ListComp elt [⟨t0,i0,f0,0⟩,⟨t1,i1,f1,0⟩] scope pos) (some (.Name x px)) gK.line X.env=pure true:=by rfl) (hm:md.getD i 0=1:=by rfl) (h7:X.N[i]? =some x:=by rfl) (hx:Loc X.env.scope x:=by first|exact Or.inl rfl|exact Or.inr rfl)
  (hf:X.fn x=true∨X.env.scope.names.lookup x=some .local:=by first|exact .inl rfl|exact .inr rfl|assumption)
  (hs:∀x,foldedSetIterable i0 X.env x=pure x:=by intro _;rfl) (v7:∀env x,foldedSetIterable i1 env x=pure x:=by intro _ _;rfl):
  DSt Z X md rn (.Assign [.Name x px] (.ListComp elt [⟨t0,i0,f0,0⟩,⟨t1,i1,f1,0⟩] scope pos) gK) (Hn md i (Mw wi g tt cH g1 cg te src)):=by
 refine (uP hc hN h7 hx c dZ hi hg ht sO CW C5 he j7 hf hs v7).imp ?_;rintro D σ H ⟨B,ρ,E,⟨G,fp,S⟩,h,M⟩;exact F6 σ H _ (qV hm S h M)
end
section
variable {Z:DC} {X:Cx}
end
end L2
namespace Wb
section
variable {α:Type}
open Classical in
end
theorem BU{l:List Nat}(nd:l.Nodup){P:Nat→Prop}(h:∀x∈l,P x→P (ae l x)){a:Nat}(ha:a∈l)(pa:P a):∀x∈l,P x:=by
 have pos:0<l.length:=Cn ha;have ia:=gN.mpr ha
 have key:∀k,P (l.getD ((l.idxOf a+k)%l.length) 0):=by
  intro k
  induction k with
  |zero=>
   rw [Nat.add_zero,mM ia,aS,bA ia]
   have:l[l.idxOf a]=a:=iU ia
   show P (l[l.idxOf a]);rw [this];exact pa
  |succ k ih=>
   have bN:(l.idxOf a+k)%l.length<l.length:=og _ pos
   have:=h _ (aD bN) ih
   rw [iz nd bN] at this;rw [show l.idxOf a+(k+1)=l.idxOf a+k+1 by omega]
   rw [Nat.mod_add_mod] at this;exact this
 intro x hx;have ix:=gN.mpr hx
 have:=key (l.idxOf x+l.length-l.idxOf a)
 rw [show l.idxOf a+(l.idxOf x+l.length-l.idxOf a)=l.idxOf x+l.length by omega,Nat.add_mod_right,mM ix,aS,bA ix] at this
 have e:l[l.idxOf x]=x:=iU ix;have this:P (l[l.idxOf x]):=this;rw [e] at this;exact this
section
variable {w:W} {R:List Nat} {A:Nat×Nat→Prop}
theorem Disc.closed(g:Good w)(D:Disc w R A){p q:Nat}(hp:p∉R)(h:A (p,q)):∀r∈row w p,A (p,r):=by
 refine BU (g.nod p) (P:=λr=>A (p,r)) (λx hx a=>?_) (D.dart _ h) h;have s:=(D.sym p x hx (λz=>hp z.1) (λz=>hp (by rw [z.2];exact bq z.1))).mp a
 exact (D.face (x,p) (g.sym _ _ hx)).mp s
def dj(R:List Nat)(A:Nat×Nat→Prop)(p:Nat):Prop:=p∉R∧∃q,A (p,q)
theorem yO(g:Good w)(B:qC w)(D:Disc w R A){i j:Nat}(cy:i<j)(hj:j<R.length)(h:R.getD j 0∈withinL w R i):
  ∃S:Nat×Nat→Prop,Disc w ((R.take (j+1)).drop i) (λd=>A d∧S d)∧Disc w (R.drop j++R.take (i+1)) (λd=>A d∧¬S d):=by
 have hi:i<R.length:=by omega
 have hw:=(fI g D hi).mp h
 have hB:(R.drop (i+1)).take (j-i-1)≠ []:=by
  intro e;have e:=congrArg List.length e;simp only [cm,fw,qB] at e;have e:j=i+1:=by omega
  refine qo g D hi ?_;rw [mM (by omega),←e];exact h
 have hC:R.drop (j+1)++R.take i≠ []:=by
  intro e;have e:=congrArg List.length e;simp only [b9,cm,fw,qB] at e;refine hw.2 ?_;unfold bS;rw [if_pos (by omega),show j=R.length-1 by omega]
 rw [Oe cy hj,Of cy hj];have s3:=Fn cy hj;generalize hP:R.take i=P at*;generalize hp:R.getD i 0=p at*;generalize hBB:(R.drop (i+1)).take (j-i-1)=BB at*;generalize hq:R.getD j 0=q at*;generalize hCC:R.drop (j+1)=CC at*;have D0:Disc w (P++p::(BB++q::CC)) A:=s3▸D
 have D1:Disc w (p::(BB++q::(CC++P))) A:=by
  have:=D0.D3
  simpa using this
 have uB:=D1.nd;have e1:p::(BB++q::(CC++P))=(p::BB)++ [q]++(CC++P):=by simp
 have Tg:(p::(BB++ [q])).Nodup:=by
  rw [e1] at uB
  have:=(fe.mp uB).1
  simpa using this
 have bl:1≤BB.length:=vG.mpr hB
 have tie:∀x∈p::(BB++ [q]),ae (p::(BB++ [q])) x∈row w x:=λx hx=>by
  have hx:x∈p::BB∨x=q:=by simpa [or_assoc] using hx
  rcases hx with hx|rfl
  ·have:=oU (a:=p::BB) (z:=q) (b:=CC++P) (by rw [←e1];exact uB) hx
   rw [←e1] at this;rw [show p::(BB++ [q])=(p::BB)++ [q] by simp,←this]
   exact g.sym _ _ (D1.ring x (by rw [e1];exact fb _ (fb _ hx))).1
  ·rw [cT Tg]
   exact g.sym _ _ (D.dart _ hw.1)
 obtain ⟨S,bd⟩:=B.ring g Tg (by simp;omega) tie
 by_cases c:S (ae (p::(BB++q::(CC++P))) p,p)
 ·exact ⟨S,parted g D1 rfl hB hC hw.1 bd c⟩
 ·exact ⟨λd=>¬S d,parted g D1 rfl hB hC hw.1 bd.neg c⟩
variable {v m:Nat} {y:Nat→Nat}
theorem GH(g:Good w)(D:Disc w R A)(F:At w R v 1 y)(hR:R= [y 0,y 1,v])(d:Nat×Nat)(h:A d):fh v 1 y d:=by
 apply Classical.byContradiction;intro hn;have nd:=D.nd;have s0:ae R (y 0)=y 1:=by rw [hR];exact bK (a:= []) (by rw [hR] at nd;exact nd)
 have s1:ae R (y 1)=v:=F.pv;have s2:ae R v=y 0:=F.nx.symm;have m0:y 0∈R:=by rw [hR];simp
 have m1:y 1∈R:=by rw [hR];simp
 have m2:v∈R:=F.vm;have mR:∀p∈R,p=y 0∨p=y 1∨p=v:=λp hp=>by rw [hR] at hp;simpa using hp
 have t0:fh v 1 y (y 0,v):=⟨0,by omega, .inl rfl⟩
 have t1:fh v 1 y (v,y 1):=⟨0,by omega, .inr (.inl rfl)⟩
 have t2:fh v 1 y (y 1,y 0):=⟨0,by omega, .inr (.inr rfl)⟩
 have tr:∀p q,fh v 1 y (p,q)→q∈R∧p=ae R q:=by
  rintro p q ⟨k,hk,h⟩
  have:k=0:=by omega
  subst this
  rcases h with h|h|h<;>obtain ⟨rfl,rfl⟩:=Prod.mk.inj h
  ·exact ⟨m2,s2.symm⟩
  ·exact ⟨m1,s1.symm⟩
  ·exact ⟨m0,s0.symm⟩
 have rev:∀p q,A (p,q)→¬fh v 1 y (p,q)→A (q,p)∧¬fh v 1 y (q,p):=λp q a n=>by
  have n1:¬(p∈R∧q=ae R p):=λz=>(D.ring p z.1).2.2 (by rw [←z.2];exact a)
  have n2:¬(q∈R∧p=ae R q):=by
   rintro ⟨hq,rfl⟩
   rcases mR q hq with rfl|rfl|rfl
   ·rw [s0] at n;exact n t2
   ·rw [s1] at n;exact n t1
   ·rw [s2] at n;exact n t0
  refine ⟨(D.sym p q (D.dart _ a) n1 n2).mp a,λt=>?_⟩;exact n1 (tr _ _ t)
 have all:∀p q,A (p,q)→¬fh v 1 y (p,q)→∀r∈row w p,A (p,r)∧¬fh v 1 y (p,r):=λp q a n=>by
  refine BU (g.nod p) (P:=λr=>A (p,r)∧¬fh v 1 y (p,r)) (λx hx z=>?_) (D.dart _ a) ⟨a,n⟩;obtain ⟨z1,z2⟩:=rev p x z.1 z.2;have hd:aG w (x,p):=g.sym _ _ hx;exact ⟨(D.face _ hd).mp z1,λt=>z2 ((F.MY g D hd).mpr t)⟩
 obtain ⟨p,q⟩:=d
 have go:∀r,Reach w p r→∀s∈row w r,A (r,s)∧¬fh v 1 y (r,s):=by
  intro r hr
  induction hr with
  |refl=>exact all p q h hn
  | @step b c _ hc ih=>
   obtain ⟨a,n⟩:=ih c hc;obtain ⟨a',n'⟩:=rev _ _ a n;exact all c b a' n'
 have hp:p<w.length:=bC (D.dart _ h);have hv:v<w.length:=bC (F.fan.mem 0 (by omega))
 have hr:Reach w p v:=((g.con p hp).symm g.sym).trans (g.con v hv);exact (go v hr (y 1) (F.fan.mem 1 (by omega))).2 t1
end
section
variable {w:W} {R:List Nat} {A:Nat×Nat→Prop}
theorem Disc.swap(D:Disc w R A){p q:Nat}(h:A (p,q))(n:p∉R∨q∉R):A (q,p):=by
 refine (D.sym p q (D.dart _ h) (λz=>?_) (λz=>?_)).mp h
 ·rcases n with n|n
  ·exact n z.1
  ·exact n (by rw [z.2];exact bq z.1)
 ·rcases n with n|n
  ·exact n (by rw [z.2];exact bq z.1)
  ·exact n z.1
theorem inn_start(g:Good w)(D:Disc w R A){i z:Nat}(hi:i<R.length)(h:z∈withinL w R i)(hz:z∉R):dj R A z:=
 ⟨hz,_,D.swap ((fI g D hi).mp h).1 (.inr hz)⟩
theorem FY(g:Good w)(D:Disc w R A){p q:Nat}(h:dj R A p)(hq:q∈row w p)(hz:q∉R):dj R A q:=by
 obtain ⟨h1,r,h2⟩:=h;exact ⟨hz,_,D.swap (D.closed g h1 h2 q hq) (.inl h1)⟩
theorem CJ(g:Good w)(D:Disc w R A){M:Nat→Prop}(c1:∀i z,i<R.length→z∈withinL w R i→z∉R→M z)(c2:∀p q,M p→q∈row w p→q∉R→M q){p:Nat}(h:dj R A p):M p:=by
 apply Classical.byContradiction;intro nm
 have step:∀p q,(dj R A p∧¬M p)→q∈row w p→(dj R A q∧¬M q):=λp q ⟨hp,np⟩ hq=>by
  obtain ⟨h1,r,h2⟩:=hp;have a:=D.closed g h1 h2 q hq;have a':=D.swap a (.inl h1)
  by_cases c:q∈R
  ·exfalso
   have lt:=gN.mpr c;have e:R.getD (R.idxOf q) 0=q:=by rw [aS,bA lt,iU lt];rfl
   refine np (c1 (R.idxOf q) p lt ((fI g D lt).mpr ⟨by rw [e];exact a',λz=>h1 ?_⟩) h1)
   rw [z];exact aD (fG lt)
  ·exact ⟨⟨c,p,a'⟩,λmq=>np (c2 q p mq (g.sym _ _ hq) h1)⟩
 have bN:p<w.length:=by obtain ⟨_,q,a⟩:=h;exact bC (D.dart _ a)
 have all:∀{a b},Reach w a b→(dj R A b∧¬M b)→(dj R A a∧¬M a):=λ {a b} r=>by
  induction r with
  |refl=>exact id
  |step _ hr ih=>exact λhb=>ih (step _ _ hb (g.sym _ _ hr))
 have z0:=all (g.con p bN) ⟨h,nm⟩;have fwd:∀q,q<w.length→(dj R A q∧¬M q):=rJ g z0 step;have hr:R.getD 0 0∈R:=aD (by have:=D.len;omega)
 exact (fwd _ (bC (g.sym _ _ (D.ring _ hr).1))).1.1 hr
theorem tD(g:Good w)(D:Disc w R A){p:Nat}(h:dj R A p):p<w.length:=by obtain ⟨_,q,a⟩:=h;exact bC (D.dart _ a)
theorem Jx(R:List Nat)(k:Nat):(R.drop k++R.take k).length=R.length:=by
 rw [b9,fw,cm];omega
end
theorem kj{α β:Type}{f:α→β}{l:List α}(nd:l.Nodup)(inj:∀a∈l,∀b∈l,f a=f b→a=b):(l.map f).Nodup:=by
 rw [Fu,kS];exact (Fu.mp nd).imp_of_mem λ {a b} ha hb Bi e=>Bi (inj a ha b hb e)
section
variable {w:W} {R:List Nat} {A:Nat×Nat→Prop}
theorem n5(g:Good w)(D:Disc w R A){i:Nat}(hi:i<R.length):(withinL w R i).Nodup:=by
 obtain ⟨m,y,F,_,_,ew⟩:=mH g D hi;rw [ew];have hl:=F.lt;refine kj kF λa ha b hb e=>?_;rw [bH] at ha hb
 have:=F.inj (a+1) (b+1) (by omega) (by omega) e
 omega
theorem rT{α β:Type}{f:α→List β}:∀{l:List α},l.Nodup→(∀a∈l,(f a).Nodup)→(∀a∈l,∀b∈l,∀x,x∈f a→x∈f b→a=b)→(l.flatMap f).Nodup
 | [],_,_,_=>kW
 |a::l,nd,h1,h2=>by
  obtain ⟨n1,n2⟩:=hU.mp nd;rw [sD,fe];refine ⟨h1 a (cB ..),rT n2 (λb hb=>h1 b (cI _ hb)) (λb hb c hc=>h2 b (cI _ hb) c (cI _ hc)),λx hx y hy e=>?_⟩;obtain ⟨b,hb,hy⟩:=List.mem_flatMap.mp hy;subst e
  have:=h2 a (cB ..) b (cI _ hb) x hx hy
  exact n1 (by rw [this];exact hb)
end
end Wb
namespace oh
open PySem L2 Wb
variable {P:Program} {w:World} {mg:Str→Option Value} {base:Heap} {Z:DC} (T:Txt Z mg)
theorem MD{g:di}{cH:gy}{g1:di}{cg:cU}{te:aT}{α β γ:Type}(I:DN→Prop)(J:α→DN→Prop)(enc:α→D)(f:α→List β)(g6:β→D)(p:α→β→Bool)(k:α→β→γ)(lN:γ→D)(JI:∀y ρ,J y ρ→I ρ):∀(ys:List α)(aA:DN)(acc:List γ)(P:List D→Prop),
  (∀y∈ys,∀aA,I aA→∀(Y:DN→List D→Prop),(∀aU,J y aU→Y aU ((f y).map g6))→g (enc y) aA λaU=>cH aU (Y aU))→
  (∀y∈ys,∀b∈f y,∀aA,J y aA→∀(Y:DN→D→Prop)(Nn:DN→Prop),(∀aU,J y aU→p y b=true→Y aU (lN (k y b)))→(∀aU,J y aU→p y b=false→Nn aU)→g1 (g6 b) aA λaU=>cg aU λc=>if c=true then te aU (Y aU) else Nn aU)→
  I aA→acc.length+(ys.flatMap λy=>((f y).filter (p y)).map (k y)).length≤sizeLine→(∀y∈ys,acc.length+(ys.flatMap λy=>((f y).filter (p y)).map (k y)).length+(f y).length≤sizeLine)→P ((acc++ys.flatMap λy=>((f y).filter (p y)).map (k y)).map lN)→g7 g nO cH g1 cg te (ys.map enc) aA (acc.map lN) P
 | [],aA,acc,P,_,_,hI,_,_,h=>by
  show P (acc.map lN);simpa using h
 |y::ys,aA,acc,P,h1,h2,hI,hz,hy,h=>by
  have X9:=hy y (cB ..);rw [sD,b9] at hz X9;refine h1 y (cB ..) aA hI (λaU es=>lcW g1 cg te es aU (acc.map lN) λcq jB=>g7 g nO cH g1 cg te (ys.map enc) cq jB P) λaU Xm=>?_;refine pP (J y) g6 (p y) (λb=>lN (k y b)) (f y) aU (acc.map lN) _ (λb hb cq N8 Y Nn hY hN=>?_) Xm (by rw [aK];omega) λcq N8=>?_
  ·exact h2 y (cB ..) b hb cq N8 Y Nn hY hN
  ·have e:acc.map lN++((f y).filter (p y)).map (λb=>lN (k y b))=(acc++((f y).filter (p y)).map (k y)).map lN:=by rw [dr,gh];rfl
   rw [e];refine MD I J enc f g6 p k lN JI ys cq (acc++((f y).filter (p y)).map (k y)) P (λz hz=>h1 z (cI _ hz)) (λz hz=>h2 z (cI _ hz)) (JI y cq N8) (by rw [b9];omega) (λz hz=>?_) ?_
   ·have:=hy z (cI _ hz)
    rw [sD,b9] at this;rw [b9];omega
   ·rw [sD] at h
    rw [kR];exact h
theorem F0{ms:List Int}{ns:List Nat}(pm:ms.Perm (ns.map λ(n:Nat)=>(n:Int)))(nG:ms.Pairwise (·≤·))(nd:ns.Nodup):∃L:List Nat,ms.map D.int=L.map af∧L.Pairwise (·<·)∧L.Perm ns:=by
 have e:∀m∈ms,((m.toNat:Nat):Int)=m:=λm hm=>by
  obtain ⟨n,_,rfl⟩:=fg.mp (pm.mem_iff.mp hm);simp
 have pn:(ms.map Int.toNat).Perm ns:=by
  have:=pm.map Int.toNat
  rw [gh] at this;rw [show (Int.toNat∘λ(n:Nat)=>(n:Int))=id from by funext n;simp] at this
  simpa using this
 refine ⟨ms.map Int.toNat,?_,?_,pn⟩
 ·rw [gh]
  exact AE λm hm=>by show D.int m=af m.toNat;unfold af;rw [e m hm]
 ·have jL:=pn.nodup_iff.mpr nd
  rw [Fu,kS] at jL;rw [kS]
  exact (nG.and jL).imp λ {a b} ⟨h1,h2⟩=>by
   have:a.toNat≤b.toNat:=Int.toNat_le_toNat h1
   omega
theorem jg{w:W}{R:List Nat}{i:Nat}(g:Good w)(bE:w.length≤14)(Ti:f9 w R)(hi:i<R.length):(withinL w R i).length≤14:=by
 rw [qq]
 have:=uS (Ti.next (i:=i) hi)
 have h2:=iP g (R.getD i 0);rw [cm];omega
def Eb:dD:=λds P=>∃(w:W)(R:List Nat)(A:Nat×Nat→Prop),ds= [.eE w,ao R]∧Good w∧w.length≤14∧Disc w R A∧∀L:List Nat,L.Pairwise (·<·)→(∀p,p∈L↔dj R A p)→P (ao L)
theorem cS:FnOk P w Z.K mg base cO 3 T.d_points_within.f T.d_points_within.fd ["web","ring"] (aV Z Eb):=by
 have nd:=je.nd;refine br T.d_points_within.F je [0,0,0,1,99,0] (by decide) (λds R h=>by obtain ⟨_,_,_,rfl,_⟩:=h;rfl) (λbF A outer s H E ds R hr h=>?_)
 have hu:=hr.units
 refine ⟨_,(ah (aE false 2 nd (wy T.W (aa 0) T.m_turns.m (nS T) (hr.mono (by decide)) T.m_turns.b))
   (ah (CB 3 (NC:= ["i","p","web","ring"]) (src:= [none,none,some 0,some 1]) rfl nd (sI (av e6)) ⟨rfl,rfl,rfl,rfl,trivial⟩ (om rfl T.B.range (ab (ay aP rfl T.B.len aO (ab (aa 1) ag)) ag)) (λ_ _ _=>(cD 0 (show (["i","p","web","ring"]:List Str).Nodup from by decide+kernel))) (λ_ _ _=>fm) (λ_ _ _=>(cE (az T.d_within_at ((fW T).imp Ea) hr (ab (aa 2) (ab (aa 3) (ab (aa 0) ag)))))) (λ_ _ _=>(cD 1 (show (["i","p","web","ring"]:List Str).Nodup from by decide+kernel))) (λ_ _ _=>fm) (λ_ _ _=>(aa 1)))
   (ah (HD 4 nd rfl T.x_set)
   (ah (wG PassesOwn.never (i8 (aa 3)) (ah (yX 5 3 nd)
   (aq (bX (DW.dt (EG (bp qX (aa 5) (aa 1) (by with_unfolding_all rfl)) (A7 (bp DD (aa 5) (aa 4) (by with_unfolding_all rfl))))) (ah (HC false 4 (aa 5))
   (aq (Kj 3 (bJ (aa 2) (aa 5))))) bg))))
   (aq (aJ (ay (Fz rfl) rfl T.B.sorted iD (ab (aa 4) ag)))))))),?_⟩
 obtain ⟨w',R',A',rfl,g,bE,D',q⟩:=h;have Ti:=D'.sh g;have Gv:=Ti.rm g;have lR:(R'.map af).length=R'.length:=aK _;have wl:∀i,i<R'.length→(withinL w' R' i).length≤14:=λi hi=>jg g bE Ti hi;refine ⟨_,rfl,w',rfl,w',rfl,bE,trivial,?_⟩;refine ⟨_,rfl,⟨by omega,by show ((R'.map af).length:Int)<2^62;omega⟩,?_⟩
 rw [show (((R'.map af).length:Int)).toNat=R'.length by omega,oR]
 have fl:∀n,n≤R'.length→((List.range n).flatMap λi=>withinL w' R' i).length≤n*14:=λn=>by
  induction n with
  |zero=>intro _;simp
  |succ n ih=>
   intro h
   have:=ih (by omega)
   have:=wl n (by omega)
   rw [List.range_succ,AF,b9];simp only [sD,List.flatMap_nil,hJ];omega
 have NW:=fl R'.length (bx _);refine Bx (λρ=>∃o0 o1,ρ= [o0,o1,some (.eE w'),some (ao R')]) af (λi=>withinL w' R' i) af (List.range R'.length) _ [] _ (λi hi aA hI Y hY=>?_) (λi hi b hb aA hI Y hY=>?_) ⟨none,none,rfl⟩ (by rw [qB,mL];exact small (by omega)) ?_
 ·obtain ⟨o0,o1,rfl⟩:=hI
  exact ⟨_,rfl,_,rfl,_,rfl,w',R',i,rfl,g,bE,Ti,bH.mp hi,hY _ ⟨_,_,rfl⟩⟩
 ·obtain ⟨o0,o1,rfl⟩:=hI
  exact ⟨_,rfl,hY _ ⟨_,_,rfl⟩⟩
 rw [mN]
 have start:∀z,z∈((List.range R'.length).flatMap λi=>withinL w' R' i)↔∃i,i<R'.length∧z∈withinL w' R' i:=λz=>by
  rw [List.mem_flatMap];exact ⟨λ⟨i,hi,h⟩=>⟨i,bH.mp hi,h⟩,λ⟨i,hi,h⟩=>⟨i,bH.mpr hi,h⟩⟩
 generalize ((List.range R'.length).flatMap λi=>withinL w' R' i)=JX at start NW
 refine vd (λm ρ=>∃(ws ms:List Nat)(o5:Option D),ρ= [some (.eE w'),some (ao R'),some (aN w'),some (.lst (ws.map af)),some (.set (eC w) (ms.map λ(n:Nat)=>(n:Int))),o5]∧ms.Nodup∧(∀p∈ms,dj R' A' p)∧(∀z∈ws,z∉R'→dj R' A' z)∧
  (∀z∈JX,z∉R'→z∈ms∨z∈ws)∧(∀p∈ms,∀q∈row w' p,q∉R'→q∈ms∨q∈ws)∧m=ws.length+20*(20-ms.length)∧ws.length≤200+20*ms.length) (JX.length+400) ?_ ?_
 ·exact ⟨JX,[],_,rfl,kW,(λp hp=>nomatch hp),λz hz n=>let ⟨i,hi,h⟩:=(start z).mp hz;inn_start g D' hi h n,λz hz _=> .inr hz,(λp hp=>nomatch hp),rfl,(by show JX.length≤200+0;omega)⟩
 rintro m _ ⟨ws,ms,o5,rfl,nm,hm,hw,c1,c2,em,hz⟩
 have ml:ms.length≤14:=by
  have:=aM (m:=List.range w'.length) nm λp hp=>bH.mpr (tD g D' (hm p hp))
  rw [ji] at this;omega
 refine ⟨_,rfl,rfl,?_⟩
 rcases AB ws with rfl| ⟨qu,p,e⟩
 ·refine cF ?_
  refine ⟨_,rfl,_,rfl,by rw [aK];omega,λks pm nG=>?_⟩
  obtain ⟨L,e1,e2,e3⟩:=F0 pm nG nm;rw [e1];refine q L e2 λp=>?_;rw [e3.mem_iff];refine ⟨hm p,λhp=>?_⟩;refine CJ g D' (M:=λx=>x∈ms) (λi z hi h n=>?_) (λp q hp hq n=>?_) hp
  ·rcases c1 z ((start z).mpr ⟨i,hi,h⟩) n with h|h
   ·exact h
   ·cases h
  ·rcases c2 p hp q hq n with h|h
   ·exact h
   ·cases h
 ·rw [Co] at e
  subst e;rw [show xr (.lst ((qu++ [p]).map af))=true by simp [xr]]
  refine cM ?_;rw [b9] at em hz;simp only [vC] at em hz;refine ⟨qu.map af,af p,by rw [dr];rfl,?_⟩
  have MG:∀x:Nat,decide ((x:Int)∈ms.map λ(n:Nat)=>(n:Int))=decide (x∈ms):=λx=>by
   refine decide_eq_decide.mpr ?_;rw [fg]
   exact ⟨λ⟨y,hy,e⟩=>by have:y=x:=by omega
                        rw [←this];exact hy,λh=>⟨x,h,rfl⟩⟩
  have keep:∀(F:DN→Prop),(p∈R'∨p∈ms)→(∀ρ,(∃(ws ms:List Nat)(o5:Option D),ρ= [some (.eE w'),some (ao R'),some (aN w'),some (.lst (ws.map af)),some (.set (eC w) (ms.map λ(n:Nat)=>(n:Int))),o5]∧ms.Nodup∧(∀p∈ms,dj R' A' p)∧(∀z∈ws,z∉R'→dj R' A' z)∧
    (∀z∈JX,z∉R'→z∈ms∨z∈ws)∧(∀p∈ms,∀q∈row w' p,q∉R'→q∈ms∨q∈ws)∧m-1=ws.length+20*(20-ms.length)∧ws.length≤200+20*ms.length)→F ρ)→
    F [some (.eE w'),some (ao R'),some (aN w'),some (.lst (qu.map af)),some (.set (eC w) (ms.map λ(n:Nat)=>(n:Int))),some (af p)]:=λF hp hF=>by
   have drop:∀z,z∉R'→(z∈ms∨z∈qu++ [p])→(z∈ms∨z∈qu):=λz n h=>by
    rcases h with h|h
    ·exact .inl h
    ·rcases cv.mp h with h|h
     ·exact .inr h
     ·rw [fL] at h
      subst h
      rcases hp with hp|hp
      ·exact absurd hp n
      ·exact .inl hp
   exact hF _ ⟨qu,ms,_,rfl,nm,hm,λz hz=>hw z (fb _ hz),λz hz n=>drop z n (c1 z hz n),λx hx y hy n=>drop y n (c2 x hx y hy n),by omega,by omega⟩
  refine ⟨_,rfl,_,rfl,rfl,ck _,_,rfl,?_⟩;refine (?_:if (if true=true then !inD (af p) (R'.map af) else _)=true then _ else _);rw [if_pos rfl,iJ];refine eo (λnr=>?_) (λnr=>?_)
  ·have nr:p∉R':=by simpa using nr
   refine ⟨_,rfl,_,rfl,_,_,_,rfl,rfl,_,rfl,?_⟩;refine (?_:if (if true=true then !decide ((p:Int)∈ms.map λ(n:Nat)=>(n:Int)) else _)=true then _ else _);rw [if_pos rfl,MG];refine eo (λnq=>?_) (λnq=>?_)
   ·have nq:p∉ms:=by simpa using nq
    have ip:dj R' A' p:=hw p (by simp) nr
    have bN:=tD g D' ip;have rl:=iP g p;refine ⟨_,rfl,_,rfl,p,rfl,by rw [aK];omega,?_⟩
    refine ⟨_,rfl,_,rfl,_,rfl,_,gJ bN,_,rfl,(by rw [aK,aK];exact small (by omega)),?_⟩
    have e1:wQ (ms.map λ(n:Nat)=>(n:Int)) (p:Int)=(ms++ [p]).map λ(n:Nat)=>(n:Int):=by
     unfold wQ;rw [if_neg (by have:=MG p;rw [decide_eq_false nq] at this;exact of_decide_eq_false this),dr];rfl
    refine ⟨(qu++row w' p).length+20*(20-(ms++ [p]).length),by rw [b9,b9,vC];omega,qu++row w' p,ms++ [p],some (af p),?_,?_,?_,?_,?_,?_,rfl,?_⟩
    ·rw [←e1,show (qu++row w' p).map af=qu.map af++(row w' p).map af from dr ..];rfl
    ·rw [fe]
     refine ⟨nm,by simp,λx hx y hy z=>nq ?_⟩
     rw [fL] at hy;rw [←hy,←z];exact hx
    ·intro x hx
     rcases cv.mp hx with hx|hx
     ·exact hm x hx
     ·rw [fL] at hx;rw [hx];exact ip
    ·intro z hz n
     rcases cv.mp hz with hz|hz
     ·exact hw z (fb _ hz) n
     ·exact FY g D' ip hz n
    ·intro z hz n
     rcases c1 z hz n with h|h
     ·exact .inl (fb _ h)
     ·rcases cv.mp h with h|h
      ·exact .inr (fb _ h)
      ·exact .inl (fE _ h)
    ·intro x hx y hy n
     rcases cv.mp hx with hx|hx
     ·rcases c2 x hx y hy n with h|h
      ·exact .inl (fb _ h)
      ·rcases cv.mp h with h|h
       ·exact .inr (fb _ h)
       ·exact .inl (fE _ h)
     ·rw [fL] at hx
      subst hx;exact .inr (fE _ hy)
    ·rw [b9,b9,vC];omega
   ·have nq:p∈ms:=by simpa using nq
    exact keep _ (.inr nq) λρ h=>⟨m-1,by omega,h⟩
  ·have nr:p∈R':=by simpa using nr
   refine cF ?_;exact keep _ (.inl nr) λρ h=>⟨m-1,by omega,h⟩
def D9:dD:=λds P=>∃(w:W)(R:List Nat)(A:Nat×Nat→Prop),ds= [.eE w,ao R]∧Good w∧w.length≤14∧Disc w R A∧∀cs:List (Nat×Nat),cs.Nodup→cs.Pairwise lexLe→(∀i j,(i,j)∈cs↔i<j∧j<R.length∧R.getD j 0∈withinL w R i)→P (.lst (cs.map pairD))
theorem DJ:FnOk P w Z.K mg base cO 3 T.d_chords.f T.d_chords.fd ["web","ring"] (aV Z D9):=by
 have nd:=uV.nd;refine br T.d_chords.F uV [0,0,0] (by decide) (λds R h=>by obtain ⟨_,_,_,rfl,_⟩:=h;rfl) (λbF A outer s H E ds R hr h=>?_)
 have hu:=hr.units
 refine ⟨_,(ah (CD 2 (NC:= ["i","p","ring","web"]) (src:= [none,none,some 1,some 0]) rfl nd (sI (av jS)) ⟨rfl,rfl,rfl,rfl,trivial⟩ (om rfl T.B.range (ab (ay aP rfl T.B.len aO (ab (aa 1) ag)) ag)) (λ_ _ _=>(cD 0 (show (["i","p","ring","web"]:List Str).Nodup from by decide+kernel))) (λ_ _ _=>fm) (λ_ _ _=>(cE (az T.d_within_at ((fW T).imp Ea) hr (ab (aa 3) (ab (aa 2) (ab (aa 0) ag)))))) (λ_ _ _=>(cD 1 (show (["i","p","ring","web"]:List Str).Nodup from by decide+kernel))) (λ_ _ _=>(pA (bp zA (aa 1) (aa 2) (by with_unfolding_all rfl)))) (λ_ _ _=>(eT (ab (aa 0) (ab (mV (aa 2) (aa 1)) ag)))))
   (aq (aJ (ay Fy rfl T.B.sorted iD (ab (t5 (NC:= ["i","j"]) (src:= [none,none]) rfl (sI (av jS)) trivial (cE (aa 2)) (λ_ _ _=>(Kh 2 rfl (wA (cD 0 (show (["i","j"]:List Str).Nodup from by decide+kernel)) (wA (cD 1 (show (["i","j"]:List Str).Nodup from by decide+kernel)) Hz)))) (λ_ _ _=>(pA (bp qW (aa 0) (aa 1) (bw _)))) (λ_ _ _=>(eT (ab (aa 0) (ab (aa 1) ag))))) ag))))),?_⟩
 obtain ⟨w',R',A',rfl,g,bE,D',q⟩:=h;have Ti:=D'.sh g;have Gv:=Ti.rm g;have lR:(R'.map af).length=R'.length:=aK _;have wl:∀i,i<R'.length→(withinL w' R' i).length≤14:=λi hi=>jg g bE Ti hi;refine ⟨_,rfl,⟨by omega,by show ((R'.map af).length:Int)<2^62;omega⟩,?_⟩
 rw [show (((R'.map af).length:Int)).toNat=R'.length by omega,oR]
 have fl:∀n,n≤R'.length→((List.range n).flatMap λi=>((withinL w' R' i).filter λb=>decide (b∈R')).map λb=>(i,R'.idxOf b)).length≤n*14:=λn=>by
  induction n with
  |zero=>intro _;simp
  |succ n ih=>
   intro h
   have:=ih (by omega)
   have:=wl n (by omega)
   have h3:=List.length_filter_le (λb=>decide (b∈R')) (withinL w' R' n);rw [List.range_succ,AF,b9];simp only [sD,List.flatMap_nil,hJ,aK];omega
 have NW:=fl R'.length (bx _);refine MD (λρ=>∃o0 o1,ρ= [o0,o1,some (ao R'),some (.eE w')]) (λi ρ=>∃o1,ρ= [some (af i),o1,some (ao R'),some (.eE w')]) af (λi=>withinL w' R' i) af (λi b=>decide (b∈R')) (λi b=>(i,R'.idxOf b)) pairD (λy ρ ⟨o2,e⟩=>⟨_,_,e⟩) (List.range R'.length) _ [] _ (λi hi aA hI Y hY=>?_) (λi hi b hb aA hI Y Nn hY hN=>?_) ⟨none,none,rfl⟩ (by rw [qB,mL];exact small (by omega)) (λi hi=>by have:=wl i (bH.mp hi);rw [qB,mL];exact small (by omega)) ?_
 ·obtain ⟨o0,o1,rfl⟩:=hI
  exact ⟨_,rfl,_,rfl,_,rfl,w',R',i,rfl,g,bE,Ti,bH.mp hi,hY _ ⟨_,rfl⟩⟩
 ·obtain ⟨o1,rfl⟩:=hI
  refine ⟨_,rfl,_,rfl,rfl,ck _,_,rfl,?_⟩;refine (?_:if (if false=true then _ else inD (af b) (R'.map af))=true then _ else _);rw [if_neg cN,iJ];refine eo (λe=>?_) (λe=>hN _ ⟨_,rfl⟩ e);have Oh:b∈R':=of_decide_eq_true e;exact ⟨_,rfl,_,rfl,_,rfl,_,rfl,rfl,ck _,_,_,(bI Oh).1,(bI Oh).2.1,(bI Oh).2.2,by show 2≤sizeLine;decide,hY _ ⟨_,rfl⟩ e⟩
 rw [mN]
 have mem:∀t,t∈((List.range R'.length).flatMap λi=>((withinL w' R' i).filter λb=>decide (b∈R')).map λb=>(i,R'.idxOf b))↔t.1<R'.length∧t.2<R'.length∧R'.getD t.2 0∈withinL w' R' t.1:=λt=>by
  rw [List.mem_flatMap]
  constructor
  ·rintro ⟨i,hi,h⟩
   obtain ⟨b,hb,rfl⟩:=fg.mp h;obtain ⟨h1,h2⟩:=kU.mp hb;have h2:b∈R':=of_decide_eq_true h2;have lt:=gN.mpr h2;have ej:R'.getD (R'.idxOf b) 0=b:=by rw [aS,bA lt,iU lt];rfl
   exact ⟨bH.mp hi,lt,by show R'.getD (R'.idxOf b) 0∈withinL w' R' i;rw [ej];exact h1⟩
  ·rintro ⟨h1,h2,h3⟩
   refine ⟨t.1,bH.mpr h1,fg.mpr ⟨R'.getD t.2 0,kU.mpr ⟨h3,decide_eq_true (aD h2)⟩,?_⟩⟩;have e:R'.getD t.2 0=R'[t.2]:=by rw [aS,bA h2];rfl
   rw [e,D'.nd.idxOf_getElem t.2 h2]
 have nod:((List.range R'.length).flatMap λi=>((withinL w' R' i).filter λb=>decide (b∈R')).map λb=>(i,R'.idxOf b)).Nodup:=by
  refine rT kF (λi hi=>?_) λi hi j hj x hx hy=>?_
  ·refine kj ((n5 g D' (bH.mp hi)).filter _) λa ha b hb e=>?_
   have ha:a∈R':=of_decide_eq_true (kU.mp ha).2;have hb:b∈R':=of_decide_eq_true (kU.mp hb).2;have e:R'.idxOf a=R'.idxOf b:=(Prod.mk.inj e).2;have la:=gN.mpr ha;have lb:=gN.mpr hb;have e1:=iU la;have e2:=iU lb;rw [←e1,←e2]
   congr 1
  ·obtain ⟨_,_,rfl⟩:=fg.mp hx
   obtain ⟨_,_,e⟩:=fg.mp hy;exact (Prod.mk.inj e).1.symm
 generalize ((List.range R'.length).flatMap λi=>((withinL w' R' i).filter λb=>decide (b∈R')).map λb=>(i,R'.idxOf b))=ps at mem nod NW;refine ⟨trivial,?_⟩;refine ⟨_,rfl,pP (λρ=>∃o0 o1,ρ= [o0,o1]) pairD (λt=>decide (t.1<t.2)) pairD ps _ [] _ (λt ht aA hI Y Nn hY hN=>?_) ⟨none,none,rfl⟩ (by rw [qB,mL];exact small (by omega)) λaA hI=>?_⟩
 ·obtain ⟨o0,o1,rfl⟩:=hI
  refine ⟨rfl,rfl,?_⟩;refine ⟨_,rfl,_,rfl,_,rfl,?_⟩;refine (?_:if decide ((t.1:Int)<(t.2:Int))=true then _ else _);rw [show decide ((t.1:Int)<(t.2:Int))=decide (t.1<t.2) from decide_eq_decide.mpr (by omega)]
  exact eo (λe=>⟨_,rfl,_,rfl,by show 2≤sizeLine;decide,hY _ ⟨_,_,rfl⟩ e⟩) (λe=>hN _ ⟨_,_,rfl⟩ e)
 ·rw [mN]
  have fl:=List.length_filter_le (λt:Nat×Nat=>decide (t.1<t.2)) ps;refine ⟨_,rfl,by omega,λcs pm nG=>q cs (pm.nodup_iff.mpr (nod.filter _)) nG λi j=>?_⟩
  rw [pm.mem_iff,kU,mem,decide_eq_true_eq]
  constructor
  ·rintro ⟨⟨h1,h2,h3⟩,h4⟩;exact ⟨h4,h2,h3⟩
  ·rintro ⟨h4,h2,h3⟩;exact ⟨⟨Nat.lt_trans h4 h2,h2,h3⟩,h4⟩
variable {P:Program} {w:World} {mg:Str→Option Value} {base:Heap} {Z:DC} (T:Txt Z mg)
theorem ng{L:List Nat}{P:D→Prop}(hl:L.length<64)(h:∀M:List Nat,M.Perm L→M.Pairwise (·≤·)→P (ao M)):yK [ao L] P:=by
 refine ⟨L.map λ(n:Nat)=>(n:Int),by unfold ao;rw [gh];rfl,by rw [aK];exact hl,λms pm nG=>?_⟩
 have e:∀m∈ms,((m.toNat:Nat):Int)=m:=λm hm=>by
  obtain ⟨n,_,rfl⟩:=fg.mp (pm.mem_iff.mp hm);simp
 have pn:(ms.map Int.toNat).Perm L:=by
  have:=pm.map Int.toNat
  rw [gh] at this;rw [show (Int.toNat∘λ(n:Nat)=>(n:Int))=id from by funext n;simp] at this
  simpa using this
 have:=h (ms.map Int.toNat) pn (by
  rw [kS];exact nG.imp λ {a b} h1=>Int.toNat_le_toNat h1)
 unfold ao at this;rw [gh] at this;rw [show ms.map D.int=ms.map (af∘Int.toNat) from AE λm hm=>by show D.int m=af m.toNat;unfold af;rw [e m hm]]
 exact this
theorem BS{L:List Nat}(h:L.Pairwise (·<·)):L.Pairwise (·≤·):=h.imp λh=>mK h
theorem By{a b:List Nat}(ha:a.Pairwise (·≤·))(hb:b.Pairwise (·≤·))(h:a.Perm b):a=b:=
 List.Perm.eq_of_pairwise (λ_ _ _ _ h1 h2=>Nat.le_antisymm h1 h2) ha hb h
def js(k:Nat×Nat):PyData:= .tuple [nD k.1,nD k.2]
theorem Jr(k:Nat×Nat):(pairD k).py=some (js k):=by
 unfold pairD;rw [D.py,fC,fC,fC];rfl
theorem wI(a b:Nat×Nat):PyData.eqv (js a) (js b)=true↔a=b:=by
 unfold js nD;simp [PyData.eqv,PyData.eqvAll]
 constructor
 ·rintro ⟨h1,h2⟩;exact Prod.ext (by omega) (by omega)
 ·rintro rfl;exact ⟨rfl,rfl⟩
theorem ph(l:List (Nat×Nat)):(PyData.list (l.map js)).depth≤64:=by
 rw [PyData.depth]
 have:=gx (f:=js) (k:=10) (λn=>by unfold js nD;simp [PyData.depth,PyData.depthAll]) l
 omega
theorem xo(l:List (Nat×Nat)):(D.lst (l.map pairD)).py=some (.list (l.map js)):=by rw [D.py,iN Jr];rfl
theorem CI(l m:List (Nat×Nat)):PyData.eqv (.list (l.map js)) (.list (m.map js))=decide (l=m):=by
 rw [PyData.eqv]
 by_cases e:l=m
 ·rw [decide_eq_true e];exact (gF wI l m).mpr e
 ·rw [decide_eq_false e]
  apply yE.mpr;exact λz=>e ((gF wI l m).mp z)
theorem Cy{l m:List (Nat×Nat)}{P:D→Prop}(h:P (.bl (decide (l=m)))):yT (.lst (l.map pairD)) (.lst (m.map pairD)) P:=by
 refine ⟨_,_,xo l,xo m,ph l,?_⟩;rw [if_neg cN,CI];exact h
end oh
namespace Wb
section
variable {w:W} {R:List Nat} {A:Nat×Nat→Prop}
theorem Cw(g:Good w)(B:qC w)(D:Disc w R A){i j:Nat}(cy:i<j)(hj:j<R.length)(h:R.getD j 0∈withinL w R i):
  ∃A1 A2,Disc w ((R.take (j+1)).drop i) A1∧Disc w (R.drop j++R.take (i+1)) A2∧(∀p,dj R A p↔dj ((R.take (j+1)).drop i) A1 p∨dj (R.drop j++R.take (i+1)) A2 p)∧∀p,dj ((R.take (j+1)).drop i) A1 p→¬dj (R.drop j++R.take (i+1)) A2 p:=by
 obtain ⟨S,E1,E2⟩:=yO g B D cy hj h;refine ⟨_,_,E1,E2,λp=>?_,?_⟩
 ·have Vh:∀p,p∈(R.take (j+1)).drop i→p∈R:=λp h=>vv (List.mem_of_mem_drop h)
  have Vi:∀p,p∈R.drop j++R.take (i+1)→p∈R:=λp h=>(cv.mp h).elim List.mem_of_mem_drop vv
  have cov:∀p,p∈R→p∈(R.take (j+1)).drop i∨p∈R.drop j++R.take (i+1):=λp h=>by
   rw [←gO j R] at h
   rcases cv.mp h with h|h
   ·have h:p∈R.take (j+1):=by rw [List.take_add_one];exact fb _ h
    rw [←gO i (R.take (j+1))] at h
    rcases cv.mp h with h|h
    ·refine .inr (fE _ ?_)
     rw [List.take_take,Nat.min_eq_left (by omega)] at h
     rw [List.take_add_one];exact fb _ h
    ·exact .inl h
   ·exact .inr (fb _ h)
  constructor
  ·rintro ⟨hp,q,a⟩
   by_cases s:S (p,q)
   ·exact .inl ⟨λz=>hp (Vh p z),q,a,s⟩
   ·exact .inr ⟨λz=>hp (Vi p z),q,a,s⟩
  ·rintro (⟨hp,q,a,s⟩ | ⟨hp,q,a,s⟩)
   ·refine ⟨λz=>?_,q,a⟩
    rcases cov p z with z|z
    ·exact hp z
    ·have cl:=E1.closed g hp ⟨a,s⟩
     obtain ⟨b,hb,eb⟩:=p9 E2.nd z;have r:=(E2.ring b hb);rw [eb] at r
     have:=cl b r.1
     exact r.2.1.2 this.2
   ·refine ⟨λz=>?_,q,a⟩
    rcases cov p z with z|z
    ·have cl:=E2.closed g hp ⟨a,s⟩
     obtain ⟨b,hb,eb⟩:=p9 E1.nd z;have r:=(E1.ring b hb);rw [eb] at r
     have:=cl b r.1
     exact this.2 r.2.1.2
    ·exact hp z
 ·rintro p ⟨hp,q,a,s⟩ ⟨_,q',a',s'⟩
  exact s' (E1.closed g hp ⟨a,s⟩ q' (D.dart _ a')).2
theorem F3(g:Good w)(D:Disc w R A)(no:∀i,i<R.length-1→R.getD (R.length-1) 0∉withinL w R i):
  (R.length=3∧withinL w R (R.length-1)= []∧∀p,¬dj R A p)∨∃A',Disc w (R.dropLast++(withinL w R (R.length-1)).reverse) A'∧(∀p,dj R A p↔p∈withinL w R (R.length-1)∨dj (R.dropLast++(withinL w R (R.length-1)).reverse) A' p)∧∀p∈withinL w R (R.length-1),¬dj (R.dropLast++(withinL w R (R.length-1)).reverse) A' p:=by
 have len:=D.len;have hl:R.length-1<R.length:=by omega
 obtain ⟨m,y,F,e0,em,ew⟩:=mH g D hl;have pos:=F.at_.fan.pos;have bN:=F.lt;rw [show R.length-1+1=R.length by omega,rG] at e0
 have ep:bS R (R.length-1)=R.length-2:=by unfold bS;rw [if_neg (by omega)];omega
 rw [ep] at em;have sp:=Fn (R:=R) (i:=R.length-2) (j:=R.length-1) (by omega) hl
 rw [show R.length-1-(R.length-2)-1=0 by omega,show R.length-1+1=R.length by omega,List.drop_length,vx,mN,←em] at sp
 have pl:(R.take (R.length-2)).length=R.length-2:=by rw [cm];omega
 have p0:(R.take (R.length-2)).getD 0 0=y 0:=by
  rw [e0,aS,sA (by omega),←aS]
 have Bj:∀k,0<k→k<m→y k∉R:=λk h1 h2 hR=>by
  obtain ⟨i,hi,ei⟩:=fK.mp hR;have Rz:R.getD i 0=y k:=by rw [←ei,aS,bA hi];rfl
  have hm:y k∈withinL w R (R.length-1):=by rw [ew];exact gI.mpr ⟨k,h1,h2,rfl⟩
  rw [←Rz] at hm;have hs:=Cf g D hl hi hm
  have ne:i≠R.length-1:=by
   intro z;refine F.at_.ne g (k:=k) (by omega) ?_
   rw [←Rz,z]
  exact no i (by omega) hs
 have eq:R.dropLast++(withinL w R (R.length-1)).reverse=cG (R.take (R.length-2)) m y:=by
  rw [ew,DZ];unfold cG
  have e1:R.dropLast=R.take (R.length-2)++ [y m]:=by
   rw [List.dropLast_eq_take,show R.length-1=R.length-2+1 by omega,List.take_succ,bA (by omega),em,aS,bA (by omega)]
   rfl
  rw [e1,kR]
  congr 1
  obtain ⟨m',rfl⟩:∃m',m=m'+1:=⟨m-1,by omega⟩
  rw [List.range_succ_eq_map,iV,gh];simp only [Nat.add_sub_cancel,List.singleton_append,Nat.sub_zero]
  congr 1
  refine AE λi _=>?_;show y (m'-i)=y (m'+1-(i+1))
  congr 1;omega
 rw [eq,ew];generalize hv:R.getD (R.length-1) 0=v at F sp
 by_cases c3:3≤(R.take (R.length-2)).length+m
 ·have E:=Dq g D F.at_ sp p0 (λe=>by rw [e] at pl;simp at pl;omega) Bj c3
  refine .inr ⟨_,E,λp=>?_,λp h=>?_⟩
  ·have BO:∀q∈R.take (R.length-2),q∈R:=λq h=>vv h
   have vR:v∈R:=F.at_.vm;have y0R:y 0∈R:=by rw [F.at_.nx];exact bq vR
   constructor
   ·rintro ⟨hp,q,a⟩
    by_cases z:p∈cG (R.take (R.length-2)) m y
    ·rcases dG.mp z with z| ⟨k,h1,h2,rfl⟩
     ·exact absurd (BO p z) hp
     ·by_cases km:k=m
      ·exact absurd (km▸F.at_.pm) hp
      ·exact .inl (gI.mpr ⟨k,by omega,by omega,rfl⟩)
    ·refine .inr ⟨z,q,a,?_⟩
     rintro ⟨k,hk,h|h|h⟩
     ·have e:=(Prod.mk.inj h).1
      by_cases k0:k=0
      ·rw [k0] at e;exact hp (e▸y0R)
      ·exact z (dG.mpr (.inr ⟨k,by omega,by omega,e⟩))
     ·exact hp ((Prod.mk.inj h).1▸vR)
     ·exact z (dG.mpr (.inr ⟨k+1,by omega,by omega,(Prod.mk.inj h).1⟩))
   ·rintro (h| ⟨hp,q,a,nt⟩)
    ·obtain ⟨k,k1,k2,rfl⟩:=gI.mp h
     exact ⟨Bj k k1 k2,_,(F.at_.Ii g D k k2).1⟩
    ·refine ⟨λz=>?_,q,a⟩
     rw [sp] at z
     rcases cv.mp z with z|z
     ·exact hp (dG.mpr (.inl z))
     ·have z:p=y m∨p=v:=by simpa using z
      rcases z with rfl|rfl
      ·exact hp (dG.mpr (.inr ⟨m,by omega,by omega,rfl⟩))
      ·obtain ⟨k,k1,k2,rfl⟩:=Whole.between g D F a
       exact nt ⟨k-1,by omega, .inr (.inl (by rw [show k-1+1=k by omega]))⟩
  ·rintro ⟨hp,_⟩
   obtain ⟨k,k1,k2,rfl⟩:=gI.mp h;exact hp (dG.mpr (.inr ⟨k,by omega,by omega,rfl⟩))
 ·have hm:m=1:=by omega
  have hr:R.length=3:=by omega
  subst hm
  have hR:R= [y 0,y 1,v]:=by
   have h1:R.take (R.length-2)= [y 0]:=by
    rw [hr] at pl p0 ⊢
    match R.take (3-2),pl,p0 with
    | [a],_,h=>rw [show a=y 0 from h]
   rw [h1] at sp;simpa using sp
  have only:=GH g D F.at_ hR;refine .inl ⟨hr,rfl,?_⟩;rintro p ⟨hp,q,a⟩;obtain ⟨k,hk,h⟩:=only _ a
  have:k=0:=by omega
  subst this;rw [hR] at hp
  rcases h with h|h|h<;>obtain ⟨rfl,_⟩:=Prod.mk.inj h<;>simp at hp
theorem Full.iZ(g:Good w)(F:Full w R)(h2:2≤w.length)(p:Nat):dj R (λd=>aG w d∧¬bL R d.1 d.2) p↔p<w.length∧p∉R:=by
 constructor
 ·rintro ⟨h,q,a,_⟩;exact ⟨bC a,h⟩
 ·rintro ⟨h1,h⟩
  refine ⟨h,?_⟩;have ne:=g.zM h2 h1;cases e:row w p with
  |nil=>exact absurd e ne
  |cons q l=>exact ⟨q,by show q∈row w p;rw [e];exact cB ..,λz=>h z.1⟩
end
end Wb
namespace L2
open PySem PySem.Spec PyProof.Rows
section
variable {Z:DC} {X:Cx} {md:List Nat} {rn:Nat} {b:Expr} {pos L3:Pos} {tb:aT}
def Nt(md:List Nat)(i:Nat)(tb:aT):dW:=λE ρ=>∃l1,ρ[i]? =some (some (.lst l1))∧tb (dH md ρ) λd2=>∃l2,d2= .lst l2∧l1.length+l2.length≤sizeLine∧E.nx (ρ.set i (some (.lst (l1++l2))))
theorem HB(i:Nat){x:Str}{px py:Pos}(hN:X.N.Nodup)(hb:DE Z X b tb)(hm:md.getD i 0=1:=by rfl)(hi:X.N[i]? =some x:=by rfl)(hx:Loc X.env.scope x:=by first|exact Or.inl rfl|exact Or.inr rfl)(hs:swapsWith (.BinOp (.Name x py) .Add b L3) (some (.Name x px)) pos.line X.env=pure false:=by rfl)
  (hv:sH X.env.scope x:=by first|exact Or.inl rfl|exact Or.inr (Or.inl rfl) |exact Or.inr (Or.inr rfl)) (hd:(x==("__debug__":Str))=false:=by decide) (fT:(x==("__classdict__":Str))=false:=by decide)
  (hf:X.fn x=true∨X.env.scope.names.lookup x=some .local:=by first|exact .inl rfl|exact .inr rfl|assumption):DSt Z X md rn (.Assign [.Name x px] (.BinOp (.Name x py) .Add b L3) pos) (Nt md i tb):=by
 refine (qb hN hi hx (DQ zE (pv i hi hv hd fT) hb) hs hf).imp ?_;rintro D σ H ⟨B,ρ,E,⟨G,fp,S⟩,⟨l1,h1,h⟩,M⟩;obtain ⟨l,xs,_,e0,e2,e3,bo,_⟩:=S.one hm h1;cases e0;refine ⟨_,e2,S.ev false h λd hd=>⟨trivial,λv G' H' S' x dv=>?_⟩⟩;obtain ⟨l2,rfl,hz,hn⟩:=hd;obtain ⟨p2,ys,rfl,h2,dz⟩:=dv.iL;refine ⟨_,_,_,_,rfl,rfl,x.hh _ _ e3,x.sub _ _ h2,by rw [bo.length,dz.length];exact hz,λp h8=>?_⟩
 obtain ⟨o1,o2,o3⟩:=pW x h8 ((bo.mono x.gg).append dz);exact M.nx _ hn _ _ ⟨G',_,(S.grow (x.side h8)).JA hm o1 o2 (λb hb=>⟨S.ex.hh.free (o3 b hb).1,(o3 b hb).2⟩) λb hb j _ hj=>(S.nw j b hj).2.1 (o3 b hb).1⟩
end
section
variable {Z:DC} {X:Cx} {o e:Expr} {ta tb:aT} {apos:Pos}
theorem Ga:GV X "list.count" (λx vs H Q=>∃(l:Addr)(ns:List Int)(k:Int),x= .ref l∧vs= [.int k]∧H l=some (.lst (ns.map V.int))∧Q (.int (ns.count k:Nat)) H):=by
 intro pins s σ H x vs v us Q I rx rv h;obtain ⟨l,ns,k,rfl,rfl,hl,q⟩:=h;cases rx;obtain ⟨u,rfl,ru⟩:=rv.one;obtain ⟨tk,rfl⟩:=ru;obtain ⟨its,r,pl,hz⟩:=I.list (cp.of hl);exact count_list_ints pl.isList (intsAre_of r) ⟨.int _,H,I.tok _,⟨_,rfl⟩,q⟩
def Kb(ta tb:aT):aT:=λρ P=>ta ρ λd=>∃ns:List Int,d= .lst (ns.map D.int)∧tb ρ λy=>∃k:Int,y= .int k∧P (.int (ns.count k:Nat))
theorem FE{aR:Pos}(ho:DE Z X o ta)(he:DE Z X e tb)
  (dE:attributeBase o "count" X.env (eval o X.env)=eval o X.env:=by rfl)
  (iH:((backTo aR (starEach [e] X.env)).all (λx=>!x.1)&&(backToKw aR (keywordEach [] X.env)).all (λx=>x.1.isSome)&&decide (([e]:List Expr).length+([]:List Keyword).length+(if ([]:List Keyword).isEmpty then 0 else 1)<30))=true:=by rfl)
  (cz:(apos.endLine==aR.line)=true:=by rfl) (hs:starEach [e] X.env=(false,eval e X.env)::starEach [] X.env:=by rfl) (dF:(backTo aR (starEach [] X.env)).any (·.1)=false:=by rfl):
  DE Z X (.Call (.Attribute o "count" apos) [e] [] aR) (Kb ta tb):=by
 refine (uN PySem.F.plainAttrs_list PySem.F.slot_list_count PySem.F.type_list_count Ga ho (dO he ig hs) dE iH cz hs dF).imp ?_;rintro σ H Q ⟨G,ρ,P,s,en,h,q⟩;refine ⟨G,ρ,_,s,en,h,?_⟩;rintro _ ⟨ns,rfl,hd⟩ v G1 H1 x1 dv;cases dv with
 | @lst p xs ds hp e=>
  refine ⟨ty_list (x1.sub _ _ hp),G1,ρ,_,x1.sub,en.mono x1.gg,hd,λy hy u G2 H2 x2 du=>?_⟩;obtain ⟨k,rfl,h6⟩:=hy;cases du;exact ⟨p,ns,k,rfl,rfl,by rw [←t7 e];exact x2.hh _ _ (x1.sub _ _ hp),q _ h6 _ G2 H2 (x1.trans x2) (.int _)⟩
end
end L2
namespace oh
open PySem L2 Wb
variable {P:Program} {w:World} {mg:Str→Option Value} {base:Heap} {Z:DC} (T:Txt Z mg)
def GB:dD:=λds P=>∃(R:List Nat)(i j:Nat),ds= [ao R,af i,af j]∧R.length≤14∧i<j∧j<R.length∧P (.tup [ao ((R.take (j+1)).drop i),ao (R.drop j++R.take (i+1))])
theorem BG:FnOk P w Z.K mg base cO 1 T.d_parted.f T.d_parted.fd ["ring","i","j"] (lY Z 2 GB):=by
 have nd:=uW.nd;refine mY 2 T.d_parted.F uW [0,0,0] (by decide) (λds R h=>by obtain ⟨_,_,_,rfl,_⟩:=h;rfl) (λbF A outer s H E ds R hr h=>?_)
 have hu:=hr.units;refine ⟨_,(aq (FH (wz (aa 0) (bG (aa 1)) (bG (aB bO (aa 2) au))) (tm (bM (aa 0) (bG (aa 2)) b7) (bM (aa 0) b7 (bG (aB bO (aa 1) au)))))),?_⟩;obtain ⟨R',i,j,rfl,bE,cy,hj,q⟩:=h;have lR:(R'.map af).length=R'.length:=aK _
 have c1:cutD (R'.map af) (some (i:Int)) (some ((j:Int)+1))=((R'.take (j+1)).drop i).map af:=by
  have:=wx (R'.map af) i (j+1) (by omega) (by rw [lR];omega)
  rw [mP,mO];exact this
 have c2:cutD (R'.map af) (some (j:Int)) none=(R'.drop j).map af:=by rw [eH _ _ (by rw [lR];omega),mP]
 have c3:cutD (R'.map af) none (some ((i:Int)+1))=(R'.take (i+1)).map af:=by
  have:=eJ (R'.map af) (i+1) (by rw [lR];omega)
  rw [mO];exact this
 have sz:(cutD (R'.map af) (some (j:Int)) none).length+(cutD (R'.map af) none (some ((i:Int)+1))).length≤sizeLine:=by
  rw [c2,c3,aK,aK,fw,cm];exact small (by omega)
 have e:(.tup [.lst (cutD (R'.map af) (some (i:Int)) (some ((j:Int)+1))), .lst (cutD (R'.map af) (some (j:Int)) none++cutD (R'.map af) none (some ((i:Int)+1)))]:D)= .tup [ao ((R'.take (j+1)).drop i),ao (R'.drop j++R'.take (i+1))]:=by
  rw [c1,c2,c3];unfold ao;rw [dr]
 rw [←e] at q;exact ⟨_,rfl,_,rfl,_,rfl,_,rfl,_,rfl,_,rfl,_,rfl,_,rfl,_,rfl,sz,q⟩
def oI(w:W)(R:List Nat):List Nat:=R.dropLast++(withinL w R (R.length-1)).reverse
theorem Iu{w:W}{R:List Nat}(h:0<R.length):(.lst (cutD (R.map af) none (some (-1))++((withinL w R (R.length-1)).map af).reverse):D)=ao (oI w R):=by
 rw [tW _ (by rw [aK];exact h)]
 unfold ao oI;rw [dr,List.map_dropLast,List.map_reverse]
theorem Iv{w:W}{R:List Nat}(g:Good w)(bE:w.length≤14)(Ti:f9 w R):(cutD (R.map af) none (some (-1))).length+((withinL w R (R.length-1)).map af).reverse.length≤sizeLine:=by
 have h3:=Ti.len;have hR:=Ti.rm g
 have:=jg (i:=R.length-1) g bE Ti (by omega)
 rw [tW _ (by rw [aK];omega),List.length_dropLast,qx,aK,aK]
 exact small (by omega)
def B6:dD:=λds P=>∃(w:W)(R:List Nat),ds= [.eE w,ao R]∧Good w∧w.length≤14∧f9 w R∧P (ao (oI w R))
theorem uF:FnOk P w Z.K mg base cO 3 T.d_made_less.f T.d_made_less.fd ["web","ring"] (lY Z 1 B6):=by
 have nd:=nY.nd;refine mY 1 T.d_made_less.F nY [0,0] (by decide) (λds R h=>by obtain ⟨_,_,rfl,_⟩:=h;rfl) (λbF A outer s H E ds R hr h=>?_)
 have hu:=hr.units;refine ⟨_,(aq (A5 (tm (bM (aa 1) b7 (bG (EB au))) (Hw (az T.d_within_at ((fW T).imp Ea) hr (ab (aa 0) (ab (aa 1) (ab (aB ie (ay aP rfl T.B.len aO (ab (aa 1) ag)) au) ag)))) (EB au))))),?_⟩;obtain ⟨w',R',rfl,g,bE,Ti,q⟩:=h;have lR:(R'.map af).length=R'.length:=aK _;have h3:=Ti.len;have t9:((R'.map af).length:Int)-1=((R'.length-1:Nat):Int):=by rw [lR];omega
 rw [←Iu (by omega)] at q
 refine ⟨_,rfl,_,rfl,_,rfl,_,rfl,_,rfl,w',R',R'.length-1,by show [_,_,D.int (((R'.map af).length:Int)-1)]=_;rw [t9];rfl,g,bE,Ti,by omega,?_⟩
 exact ⟨_,rfl,rfl,_,rfl,Iv g bE Ti,q⟩
def JK:dD:=λds P=>∃(w:W)(a b:Nat),ds= [.eE w,af a,af b]∧Good w∧a<w.length∧b<w.length∧P (.bl (decide (b∈row w a)))
theorem zB:FnOk P w Z.K mg base cO 2 T.m_tied.f T.m_tied.fd ["self","a","b"] (aV Z JK):=by
 have nd:=qe.nd;refine br T.m_tied.F qe [0,0,0,0] (by decide) (λds R h=>by obtain ⟨_,_,_,rfl,_⟩:=h;rfl) (λbF A outer s H E ds R hr h=>?_)
 have hu:=hr.units
 refine ⟨_,(ah (aE false 3 nd (ay aP rfl T.B.len aO (ab (t6 T.W (aa 0)) ag)))
   (aq (aJ (mU (az T.d_is_among (kn T) hr (ab (aa 1) (ab (aa 3) ag))) (mU (az T.d_is_among (kn T) hr (ab (aa 2) (ab (aa 3) ag))) (tj (j4 zA (aa 2) (bJ (t6 T.W (aa 0)) (aa 1)) (by with_unfolding_all rfl)))))))),?_⟩
 obtain ⟨w',a,b,rfl,g,ha,hb,q⟩:=h;have lw:(w'.map ao).length=w'.length:=aK _;refine ⟨_,rfl,w',rfl,trivial,?_⟩;have d1:decide ((0:Int)≤(a:Int)∧(a:Int)<((w'.map ao).length:Int))=true:=by rw [lw];exact decide_eq_true (by omega)
 have d2:decide ((0:Int)≤(b:Int)∧(b:Int)<((w'.map ao).length:Int))=true:=by rw [lw];exact decide_eq_true (by omega)
 refine ⟨_,rfl,_,rfl,_,_,rfl,_,congrArg D.bl d1,cM ?_⟩;refine ⟨_,rfl,_,rfl,_,_,rfl,_,congrArg D.bl d2,cM ?_⟩;refine ⟨_,rfl,_,rfl,w',rfl,_,rfl,_,gJ ha,rfl,ck _,?_⟩;rw [if_neg cN];rw [iJ];exact q
variable {P:Program} {w:World} {mg:Str→Option Value} {base:Heap} {Z:DC} (T:Txt Z mg)
def Gz:dD:=λds P=>∃(w:W)(R:List Nat),ds= [.eE w,ao R]∧Good w∧w.length≤14∧f9 w R∧P (.bl true)
theorem qZ:FnOk P w Z.K mg base cO 3 T.d__law_is_ring.f T.d__law_is_ring.fd ["_law_web_here","_law_ring"] (aV Z Gz):=by
 have nd:=jV.nd;refine br T.d__law_is_ring.F jV [0,0,0] (by decide) (λds R h=>by obtain ⟨_,_,rfl,_⟩:=h;rfl) (λbF A outer s H E ds R hr h=>?_)
 have hu:=hr.units
 refine ⟨_,(ah (pz rfl PassesOwn.never (oq rfl T.B.range (ab (ay aP rfl T.B.len aO (ab (aa 1) ag)) ag)) (aL 2 nd) (aq (bX (DW.dt (t8 (bp zz (FE (aa 1) (bJ (aa 1) (aa 2))) au (bw _)) (tx (mW (i8 (Hv T.W (aa 0) T.m_tied.m (zB T) (hr.mono (by decide)) T.m_tied.b (ab (bJ (aa 1) (aB ie (aa 2) au)) (ab (bJ (aa 1) (aa 2)) ag)))))))) (aq (aJ qG)) bg)))
   (aq (aJ (j4 zz (ay aP rfl T.B.len aO (ab (aa 1) ag)) au (bw _))))),?_⟩
 obtain ⟨w',R',rfl,g,bE,Ti,q⟩:=h;have Gv:=Ti.rm g;have h3:=Ti.len;have lR:(R'.map af).length=R'.length:=aK _;refine ⟨_,rfl,⟨by omega,by show ((R'.map af).length:Int)<2^62;omega⟩,?_⟩
 rw [show (((R'.map af).length:Int)).toNat=R'.length by omega]
 refine qK (λi ρ=>∃o2,ρ= [some (.eE w'),some (ao R'),o2]) ⟨none,rfl⟩ ?_ ?_
 ·rintro i _ hi ⟨o2,rfl⟩ A hA
  refine ⟨_,rfl,R'.map (λ(n:Nat)=>(n:Int)),by unfold ao;rw [gh];rfl,?_⟩
  refine ⟨_,rfl,_,rfl,_,fv hi,_,rfl,_,rfl,pN (decide_eq_false ?_) ?_⟩
  ·have h1:(R'.map (λ(n:Nat)=>(n:Int))).count ((R'.getD i 0:Nat):Int)≤1:=List.nodup_iff_count.mp (kj Ti.nd λa _ b _ e=>by omega) _
   show ¬(1:Int)<_;omega
  have vp:=Ti.lt g (aD (fG hi));have vi:=Ti.lt g (aD hi);refine ⟨_,rfl,w',rfl,_,rfl,_,rfl,_,xk hi,_,rfl,_,rfl,_,fv hi,w',_,_,rfl,g,vp,vi,rfl,?_⟩;have tie:=Ti.tie _ (aD (fG hi));rw [gL Ti.nd hi] at tie;refine pN (by show (!decide _)=false;rw [decide_eq_true tie];rfl) ?_
  exact hA _ ⟨_,rfl⟩
 ·rintro _ ⟨o2,rfl⟩
  refine ⟨_,rfl,?_⟩;refine (?_:R (.bl (decide ((1:Int)<((R'.map af).length:Int)))));rw [decide_eq_true (by omega)]
  exact q
def JJ:dD:=λds P=>∃(w:W)(R:List Nat)(A:Nat×Nat→Prop)(cs:List (Nat×Nat))(num:Int),ds= [.eE w,ao R, .lst (cs.map pairD), .int num]∧Good w∧qC w∧w.length≤14∧Disc w R A∧cs≠ []∧cs.length≤400∧(∀i j,(i,j)∈cs→i<j∧j<R.length∧R.getD j 0∈withinL w R i)∧
 ∀R1 R2 A1 A2,Disc w R1 A1→Disc w R2 A2→R1.length+R2.length=R.length+2→(∀p,dj R A p↔dj R1 A1 p∨dj R2 A2 p)→(∀p,dj R1 A1 p→¬dj R2 A2 p)→P (.lst [ao R1,ao R2])
theorem zL{w:W}{R L:List Nat}{A:Nat×Nat→Prop}(g:Good w)(bE:w.length≤14)(D':Disc w R A)(s:L.Pairwise (·<·))(m:∀p,p∈L↔dj R A p):L.length≤14:=by
 have:=aM (m:=List.range w.length) (s.imp λh=>bQ h) λp hp=>bH.mpr (tD g D' ((m p).mp hp))
 rw [ji] at this;omega
theorem u3{a b c M:List Nat}(ha:a.Nodup)(hb:b.Nodup)(A4:∀p∈a,p∉b)(hc:c.Pairwise (·<·))(m:∀p,p∈c↔p∈a∨p∈b)(pm:M.Perm (a++b))(s:M.Pairwise (·≤·)):M=c:=by
 have Gd:(a++b).Nodup:=fe.mpr ⟨ha,hb,λx hx y hy e=>A4 x hx (e▸hy)⟩;have nc:c.Nodup:=hc.imp λh=>bQ h;refine By s (BS hc) (pm.trans ((vz Gd nc).mpr λp=>?_));rw [cv,m]
theorem uJ:FnOk P w Z.K mg base cO 4 T.d__law_parts.f T.d__law_parts.fd ["_law_web_here","_law_ring","_law_some","_law_number"] (aV Z JJ):=by
 have nd:=mD.nd;refine br T.d__law_parts.F mD [0,0,0,0,0,0,0,0,0] (by decide) (λds R h=>by obtain ⟨_,_,_,_,_,rfl,_⟩:=h;rfl) (λbF A outer s H E ds R hr h=>?_)
 have hu:=hr.units
 refine ⟨_,(ah (pk (bJ (aa 2) (aB cJ (aa 3) (ay aP rfl T.B.len aO (ab (aa 2) ag)))) (fz 2 rfl (aZ (aL 4 nd) (aZ (aL 5 nd) cQ))))
   (ah (pk (az T.d_parted ((BG T).imp Ea) hr (ab (aa 1) (ab (aa 4) (ab (aa 5) ag)))) (fz 2 rfl (aZ (aL 6 nd) (aZ (aL 7 nd) cQ))))
   (ah (aE false 8 nd (aB bO (az T.d_points_within (cS T) hr (ab (aa 0) (ab (aa 6) ag))) (az T.d_points_within (cS T) hr (ab (aa 0) (ab (aa 7) ag)))))
   (ah (bX (DW.dt (t8 (bp qW (ay aP rfl T.B.len aO (ab (aa 6) ag)) au (bw _)) (t8 (bp qW (ay aP rfl T.B.len aO (ab (aa 7) ag)) au (bw _)) (tx (bp (DB hu) (ay qF rfl T.B.sorted iD (ab (aa 8) ag)) (az T.d_points_within (cS T) hr (ab (aa 0) (ab (aa 1) ag))) (bw _)))))) (aq (aJ cR)) bg)
   (aq (aJ (cx (ab (aa 6) (ab (aa 7) ag))))))))),?_⟩
 obtain ⟨w',R',A',cs,num,rfl,g,B,bE,D',yP,cl,hc,q⟩:=h;have Ti:=D'.sh g;have Gv:=Ti.rm g;have lc:(cs.map pairD).length=cs.length:=aK _;have aR:0<cs.length:=vG.mpr yP;have e0:(0:Int)<((cs.map pairD).length:Int):=by rw [lc];omega
 have m1:=gU num ((cs.map pairD).length:Int) e0;obtain ⟨a,ea⟩:∃a:Nat,num%((cs.map pairD).length:Int)=(a:Int):=⟨(num%((cs.map pairD).length:Int)).toNat,by omega⟩
 rw [ea,lc] at m1;have ha:a<cs.length:=by omega
 have Qm:gD (cs.map pairD) (num%((cs.map pairD).length:Int))=some (pairD cs[a]):=by
  rw [ea];exact ik (by rw [fc,bA ha];rfl)
 have Mx:=hc cs[a].1 cs[a].2 (qA ha);generalize cs[a]=t at Qm Mx;obtain ⟨h1,h2,h3⟩:=Mx;refine ⟨_,rfl,_,rfl,_,rfl,e0,_,Qm,rfl,rfl,?_⟩;refine ⟨_,rfl,_,rfl,_,rfl,R',t.1,t.2,rfl,by omega,h1,h2,rfl,rfl,?_⟩
 obtain ⟨A1,A2,E1,E2,iZ,A4⟩:=Cw g B D' h1 h2 h3;have l1:((R'.take (t.2+1)).drop t.1).length=t.2+1-t.1:=by rw [fw,cm];omega
 have l2:(R'.drop t.2++R'.take (t.1+1)).length=R'.length-t.2+(t.1+1):=by rw [b9,fw,cm];omega
 generalize HR:(R'.take (t.2+1)).drop t.1=R1 at E1 iZ A4 l1;generalize Bh:R'.drop t.2++R'.take (t.1+1)=R2 at E2 iZ A4 l2;have gH:=E1.len;have lW:=E2.len;refine ⟨_,rfl,_,rfl,w',R1,A1,rfl,g,bE,E1,λL1 s1 m1=>?_⟩;refine ⟨_,rfl,_,rfl,w',R2,A2,rfl,g,bE,E2,λL2 s2 m2=>?_⟩;have z1:=zL g bE E1 s1 m1;have z2:=zL g bE E2 s2 m2;refine ⟨by rw [aK,aK];exact small (by omega),trivial,?_⟩
 refine uD [some (.eE w'),some (ao R'),some (.lst (cs.map pairD)),some (.int num),some (af t.1),some (af t.2),some (ao R1),some (ao R2),some (ao (L1++L2))] (by unfold ao;rw [dr];rfl) ?_
 refine ⟨_,rfl,_,rfl,pN (decide_eq_false (by rw [aK];omega)) ?_⟩
 refine ⟨_,rfl,_,rfl,pN (decide_eq_false (by rw [aK];omega)) ?_⟩
 refine ⟨_,rfl,?_⟩;dsimp only [pd];refine ng (by rw [b9];omega) λM pm nG=>?_
 refine ⟨_,rfl,_,rfl,w',R',A',rfl,g,bE,D',λL s m=>?_⟩;have eM:M=L:=u3 (s1.imp λh=>bQ h) (s2.imp λh=>bQ h) (λp h1 h2=>A4 p ((m1 p).mp h1) ((m2 p).mp h2)) s (λp=>by rw [m,iZ,m1,m2]) pm nG
 subst eM;refine tZ ⟨_,rfl,pN (by rw [decide_eq_true rfl];rfl) ?_⟩
 exact ⟨_,rfl,_,rfl,by show 2≤sizeLine;decide,q R1 R2 A1 A2 E1 E2 (by omega) iZ A4⟩
def LF:dD:=λds P=>∃(w:W)(R:List Nat)(A:Nat×Nat→Prop),ds= [.eE w,ao R]∧Good w∧w.length≤14∧Disc w R A∧(∀i,i<R.length-1→R.getD (R.length-1) 0∉withinL w R i)∧
 ∀I R':List Nat,I.Nodup→I.length≤14→R'.length+1=R.length+I.length→((R'.length=2∧I= []∧∀p,¬dj R A p)∨(2<R'.length∧∃A',Disc w R' A'∧(∀p,dj R A p↔p∈I∨dj R' A' p)∧∀p∈I,¬dj R' A' p))→P (.tup [ao I,ao R'])
theorem wa:FnOk P w Z.K mg base cO 4 T.d__law_less.f T.d__law_less.fd ["_law_web_here","_law_ring"] (aV Z LF):=by
 have nd:=nW.nd;refine br T.d__law_less.F nW [0,0,0,0,0] (by decide) (λds R h=>by obtain ⟨_,_,_,rfl,_⟩:=h;rfl) (λbF A outer s H E ds R hr h=>?_)
 have hu:=hr.units
 refine ⟨_,(ah (aE false 2 nd (az T.d_within_at ((fW T).imp Ea) hr (ab (aa 0) (ab (aa 1) (ab (aB ie (ay aP rfl T.B.len aO (ab (aa 1) ag)) au) ag)))))
   (ah (aE false 3 nd (az T.d_made_less ((uF T).imp Ea) hr (ab (aa 0) (ab (aa 1) ag))))
   (ah (aE false 4 nd (cx ag))
   (ah (bX (bp zz (ay aP rfl T.B.len aO (ab (aa 3) ag)) au (bw _)) (aq (aE false 4 nd (az T.d_points_within (cS T) hr (ab (aa 0) (ab (aa 3) ag))))) bg)
   (ah (bX (bp (DB hu) (ay qF rfl T.B.sorted iD (ab (aB bO (aa 2) (aa 4)) ag)) (az T.d_points_within (cS T) hr (ab (aa 0) (ab (aa 1) ag))) (bw _)) (aq (aJ cR)) bg)
   (aq (aJ (eT (ab (aa 2) (ab (aa 3) ag)))))))))),?_⟩
 obtain ⟨w',R',A',rfl,g,bE,D',no,q⟩:=h;have Ti:=D'.sh g;have Gv:=Ti.rm g;have h3:=D'.len;have lR:(R'.map af).length=R'.length:=aK _;have t9:((R'.map af).length:Int)-1=((R'.length-1:Nat):Int):=by rw [lR];omega
 refine ⟨_,rfl,_,rfl,_,rfl,w',R',R'.length-1,by show [_,_,D.int (((R'.map af).length:Int)-1)]=_;rw [t9];rfl,g,bE,Ti,by omega,trivial,?_⟩
 refine ⟨_,rfl,_,rfl,w',R',rfl,g,bE,Ti,trivial,?_⟩;have nI:=n5 g D' (i:=R'.length-1) (by omega)
 have lI:=jg g bE Ti (i:=R'.length-1) (by omega)
 have iZ:=F3 g D' no
 have ll:(oI w' R').length+1=R'.length+(withinL w' R' (R'.length-1)).length:=by
  unfold oI;rw [b9,List.length_dropLast,qx];omega
 rw [show R'.dropLast++(withinL w' R' (R'.length-1)).reverse=oI w' R' from rfl] at iZ;generalize withinL w' R' (R'.length-1)=I at nI lI iZ ll;generalize oI w' R'=R2 at iZ ll;have zj:(R2.map af).length=R2.length:=aK _;refine ⟨by show 0≤sizeLine;decide,trivial,?_⟩
 refine ⟨_,rfl,?_⟩;dsimp only [pd,AO]
 rcases iZ with ⟨c1,c2,c3⟩ | ⟨A2,E2,c2,c3⟩
 ·subst c2
  have l2:R2.length=2:=by simp at ll;omega
  refine ⟨_,rfl,pN (decide_eq_false (by rw [zj];omega)) ?_⟩
  refine ⟨_,rfl,_,rfl,by show 0≤sizeLine;decide,?_⟩
  dsimp only [pd];refine (?_:yK [ao []] _);refine ng (by decide) λM pm nG=>?_
  have eM:M= []:=pm.eq_nil;subst eM;refine ⟨_,rfl,_,rfl,w',R',A',rfl,g,bE,D',λL s m=>?_⟩;have eL:L= []:=List.eq_nil_iff_forall_not_mem.mpr λp hp=>c3 p ((m p).mp hp);subst eL;refine tZ ⟨_,rfl,cF ?_⟩;exact ⟨_,rfl,_,rfl,by show 2≤sizeLine;decide,q [] R2 nI lI ll (.inl ⟨l2,rfl,c3⟩)⟩
 ·have l2:=E2.len
  refine ⟨_,rfl,MC (decide_eq_true (by rw [zj];omega)) ?_⟩
  refine ⟨_,rfl,_,rfl,w',R2,A2,rfl,g,bE,E2,λL2 s2 m2=>⟨trivial,?_⟩⟩;have z2:=zL g bE E2 s2 m2;refine ⟨_,rfl,_,rfl,by rw [aK,aK];exact small (by omega),?_⟩
  dsimp only [pd];rw [show (.lst (I.map af++L2.map af):D)=ao (I++L2) by unfold ao;rw [dr]]
  refine ng (by rw [b9];omega) λM pm nG=>?_
  refine ⟨_,rfl,_,rfl,w',R',A',rfl,g,bE,D',λL s m=>?_⟩;have eM:M=L:=u3 nI (s2.imp λh=>bQ h) (λp h1 h2=>c3 p h1 ((m2 p).mp h2)) s (λp=>by rw [m,c2,m2]) pm nG
  subst eM;refine tZ ⟨_,rfl,pN (by rw [decide_eq_true rfl];rfl) ?_⟩
  exact ⟨_,rfl,_,rfl,by show 2≤sizeLine;decide,q I R2 nI lI ll (.inr ⟨by omega,A2,E2,c2,c3⟩)⟩
theorem HH{l:List (Nat×Nat)}{P:D→Prop}(h:P (.bl l.isEmpty)):yT (.lst (l.map pairD)) (.lst []) P:=by
 have e:=Cy (l:=l) (m:= []) (P:=P);refine e ?_
 have:decide (l= [])=l.isEmpty:=by cases l<;>rfl
 rw [this];exact h
def D8:dD:=λds P=>∃(cs:List (Nat×Nat))(last:Nat)(num:Int),ds= [.lst (cs.map pairD),af last, .int num]∧cs.length≤400∧∀b:Bool,(b=true→cs≠ [])→(b=false→∀t∈cs,t.2≠last)→P (.bl b)
theorem pV:FnOk P w Z.K mg base cO 1 T.d__law_by_chord.f T.d__law_by_chord.fd ["_law_some","_law_last","_law_number"] (aV Z D8):=by
 have nd:=jd.nd;refine br T.d__law_by_chord.F jd [0,0,0] (by decide) (λds R h=>by obtain ⟨_,_,_,rfl,_⟩:=h;rfl) (λbF A outer s H E ds R hr h=>?_)
 have hu:=hr.units
 refine ⟨_,(ah (bX (bp (jr hu) (aa 0) (cx ag) (bw _)) (aq (aJ qG)) bg)
   (aq (aJ (NK (j4 (jr hu) (aB cJ (aa 2) au) au (bw _)) (tj (j4 (DB hu) (t5 (NC:= ["_law_two","_law_last"]) (src:= [none,some 1]) rfl (sI (av eZ)) ⟨rfl,rfl,trivial⟩ (cE (aa 0)) (λ_ _ _=>(cD 0 (show (["_law_two","_law_last"]:List Str).Nodup from by decide+kernel))) (λ_ _ _=>(pA (bp (jr hu) (bJ (aa 0) au) (aa 1) (bw _)))) (λ_ _ _=>(aa 0))) (cx ag) (bw _))))))),?_⟩
 obtain ⟨cs,last,num,rfl,cl,q⟩:=h;refine ⟨_,rfl,by show 0≤sizeLine;decide,?_⟩
 refine HH ⟨_,rfl,eo (λe=>?_) (λe=>?_)⟩
 ·have:cs= []:=by simpa using e
  subst this;exact q false (λz=>absurd z (by decide)) λ_ t ht=>nomatch ht
 ·have ne:cs≠ []:=λz=>by rw [z] at e;exact absurd e (by decide)
  refine ⟨_,rfl,(by show (0:Int)<3;decide),Kn ⟨_,rfl,eo (λ_=>q true (λ_=>ne) λz=>absurd z (by decide)) (λ_=>?_)⟩⟩
  refine ⟨_,rfl,lV (ρ:= [none,some (af last)]) pairD (λt=>decide (t.2=last)) pairD cs _ [] _ (λt ht Y Nn t1 t2=>?_) ⟨none,rfl⟩ (by rw [qB,mL];exact small (by omega)) λaA=>?_⟩
  ·refine ⟨_,rfl,_,rfl,_,rfl,?_⟩
   refine (?_:yT (.int (t.2:Int)) (.int (last:Int)) _);refine tY ⟨_,rfl,?_⟩;rw [show decide ((t.2:Int)=(last:Int))=decide (t.2=last) from decide_eq_decide.mpr (by omega)]
   exact eo (λe=>⟨_,rfl,t1 e⟩) (λe=>t2 e)
  ·rw [mN]
   refine ⟨by show 0≤sizeLine;decide,ne_nil (iN Jr _) (ph _) ?_⟩
   refine q _ (λ_=>ne) λz t ht hl=>?_
   have:t∈cs.filter λt=>decide (t.2=last):=kU.mpr ⟨ht,decide_eq_true hl⟩
   cases e:cs.filter λt=>decide (t.2=last) with
   |nil=>rw [e] at this;cases this
   |cons a l=>rw [e] at z;exact Bool.noConfusion z
open Classical in
noncomputable def dk(w:W)(R:List Nat)(A:Nat×Nat→Prop):List Nat:=(List.range w.length).filter λp=>decide (dj R A p)
theorem jH{w:W}{R:List Nat}{A:Nat×Nat→Prop}(g:Good w)(D':Disc w R A)(p:Nat):p∈dk w R A↔dj R A p:=by
 classical
 unfold dk;rw [kU,bH,decide_eq_true_eq];exact ⟨λh=>h.2,λh=>⟨tD g D' h,h⟩⟩
theorem gG(w:W)(R:List Nat)(A:Nat×Nat→Prop):(dk w R A).Nodup:=by
 unfold dk;exact kF.filter _
noncomputable def tri(w:W)(R:List Nat)(A:Nat×Nat→Prop):Nat:=2*(dk w R A).length+R.length-2
abbrev RA:=List Nat×(Nat×Nat→Prop)
noncomputable def Cb(w:W)(L:List RA):Nat:=(L.map λx=>tri w x.1 x.2).sum
noncomputable def sW(w:W)(L:List RA):Nat:=(L.map λx=>2*tri w x.1 x.2-1).sum
noncomputable def rO(w:W)(L:List RA):List Nat:=L.flatMap λx=>dk w x.1 x.2
def LG:dD:=λds P=>∃(w:W)(R:List Nat)(A:Nat×Nat→Prop)(num:Int),ds= [.eE w,ao R, .int num]∧Good w∧qC w∧w.length≤14∧Disc w R A∧
 ∀(L:List RA)(I:List Nat)(k:Nat),(∀x∈L,Disc w x.1 x.2)→L.length≤2→I.length≤14→(dk w R A).Perm (I++rO w L)→Cb w L+k=tri w R A→sW w L+2≤2*tri w R A→P (.tup [.lst (L.map λx=>ao x.1),ao I,af k])
theorem Hi{n:Nat}{cs:List (Nat×Nat)}(nc:cs.Nodup)(bE:n≤14)(hc:∀t∈cs,t.1<n∧t.2<n):cs.length≤400:=by
 have:=aM (m:=(List.range n).flatMap λi=>(List.range n).map λj=>(i,j)) nc λt ht=>
  List.mem_flatMap.mpr ⟨t.1,bH.mpr (hc t ht).1,fg.mpr ⟨t.2,bH.mpr (hc t ht).2,rfl⟩⟩
 have h2:∀m,((List.range m).flatMap λi=>(List.range n).map λj=>(i,j)).length=m*n:=λm=>by
  induction m with
  |zero=>simp
  |succ m ih=>rw [List.range_succ,AF,b9,ih,Nat.succ_mul];simp
 rw [h2] at this;have h3:n*n≤14*14:=Nat.mul_le_mul bE bE;omega
theorem wb:FnOk P w Z.K mg base cO 5 T.d__law_step.f T.d__law_step.fd ["_law_web_here","_law_ring","_law_number"] (aV Z LG):=by
 have nd:=nX.nd;refine br T.d__law_step.F nX [0,0,0,0,0,0,0,0,0] (by decide) (λds R h=>by obtain ⟨_,_,_,_,rfl,_⟩:=h;rfl) (λbF A outer s H E ds R hr h=>?_)
 have hu:=hr.units
 refine ⟨_,(ah (aE false 3 nd (az T.d_chords (DJ T) hr (ab (aa 0) (ab (aa 1) ag))))
   (ah (bX (i8 (az T.d__law_by_chord (pV T) hr (ab (aa 3) (ab (aB ie (ay aP rfl T.B.len aO (ab (aa 1) ag)) au) (ab (aa 2) ag))))) (ah (aE false 4 nd (az T.d__law_parts (uJ T) hr (ab (aa 0) (ab (aa 1) (ab (aa 3) (ab (aB fV (aa 2) au) ag))))))
   (ah (bX (bp oO (aa 4) cR (bw _)) (aq (aJ cR)) bg)
   (aq (aJ (eT (ab (aa 4) (ab (cx ag) (ab au ag)))))))) bg)
   (ah (aE false 5 nd (az T.d__law_less (wa T) hr (ab (aa 0) (ab (aa 1) ag))))
   (ah (bX (bp oO (aa 5) cR (bw _)) (aq (aJ cR)) bg)
   (ah (pk (aa 5) (fz 2 rfl (aZ (aL 6 nd) (aZ (aL 7 nd) cQ))))
   (ah (bX (bp qW (ay aP rfl T.B.len aO (ab (aa 7) ag)) au (bw _)) (aq (aJ (eT (ab (cx ag) (ab (aa 6) (ab (aB bO (ay aP rfl T.B.len aO (ab (aa 6) ag)) au) ag)))))) bg)
   (ah (aE false 8 nd (aB cJ (aB fV (aa 2) au) (ay aP rfl T.B.len aO (ab (aa 7) ag))))
   (aq (aJ (eT (ab (cx (ab (aB bO (bM (aa 7) (bG (aa 8)) b7) (bM (aa 7) b7 (bG (aa 8)))) ag)) (ab (aa 6) (ab (aB bO (ay aP rfl T.B.len aO (ab (aa 6) ag)) au) ag))))))))))))),?_⟩
 obtain ⟨w',R',A',num,rfl,g,B,bE,D',q⟩:=h;have Ti:=D'.sh g;have Gv:=Ti.rm g;have h3:=D'.len;have lR:(R'.map af).length=R'.length:=aK _;have t9:((R'.map af).length:Int)-1=((R'.length-1:Nat):Int):=by rw [lR];omega
 refine ⟨_,rfl,_,rfl,w',R',A',rfl,g,bE,D',λcs nc sc mc=>⟨trivial,?_⟩⟩;have cl:cs.length≤400:=Hi (n:=R'.length) nc (by omega) λt ht=>by have:=(mc t.1 t.2).mp ht;omega
 refine ⟨_,rfl,_,rfl,_,rfl,cs,R'.length-1,num,by show [_,D.int (((R'.map af).length:Int)-1),_]=_;rw [t9];rfl,cl,λb Ks Xq=>⟨rfl,?_⟩⟩
 have Ij:=jH g D';cases b with
 |true=>
  refine cM ?_;refine ⟨_,rfl,_,rfl,_,rfl,_,rfl,⟨by decide,by decide⟩,w',R',A',cs,_,rfl,g,B,bE,D',Ks rfl,cl,λi j h=>(mc i j).mp h,λR1 R2 A1 A2 E1 E2 hl iZ A4=>⟨trivial,?_⟩⟩
  refine ⟨_,rfl,_,rfl,cF ?_⟩;refine ⟨_,rfl,by show 0≤sizeLine;decide,by show 3≤sizeLine;decide,?_⟩
  have i1:=jH g E1;have i2:=jH g E2
  have pm:(dk w' R' A').Perm (dk w' R1 A1++dk w' R2 A2):=by
   refine (vz (gG ..) (fe.mpr ⟨gG ..,gG ..,λx hx y hy e=>A4 x ((i1 x).mp hx) ((i2 x).mp (e▸hy))⟩)).mpr λp=>?_;rw [cv,Ij,i1,i2,iZ]
  have pl:=pm.length_eq;rw [b9] at pl;have k1:=E1.len;have k2:=E2.len;refine q [(R1,A1),(R2,A2)] [] 0 ?_ (bx 2) (by decide) (by show (dk w' R' A').Perm ([]++(dk w' R1 A1++(dk w' R2 A2++ [])));rw [mN,hJ];exact pm) ?_ ?_
  ·intro x hx
   rcases cn.mp hx with rfl|hx
   ·exact E1
   ·rw [fL] at hx;rw [hx];exact E2
  ·show (tri w' R1 A1+(tri w' R2 A2+0))+0=_
   unfold tri;omega
  ·show (2*tri w' R1 A1-1+(2*tri w' R2 A2-1+0))+2≤_
   unfold tri;omega
 |false=>
  refine cF ?_;have no:∀i,i<R'.length-1→R'.getD (R'.length-1) 0∉withinL w' R' i:=λi hi h=>Xq rfl (i,R'.length-1) ((mc _ _).mpr ⟨hi,by omega,h⟩) rfl
  refine ⟨_,rfl,_,rfl,w',R',A',rfl,g,bE,D',no,λI R2 nI lI hl iZ=>⟨trivial,?_⟩⟩;have zj:(R2.map af).length=R2.length:=aK _;have ZJ:(I.map af).length=I.length:=aK _;refine ⟨_,rfl,_,rfl,cF ?_⟩;refine ⟨_,rfl,rfl,rfl,?_⟩;refine ⟨_,rfl,?_⟩;dsimp only [pd,AO]
  rcases iZ with ⟨l2,rfl,c3⟩ | ⟨l2,A2,E2,c2,c3⟩
  ·refine ⟨_,rfl,MC (decide_eq_true (by rw [zj];omega)) ?_⟩
   have e0:dk w' R' A'= []:=List.eq_nil_iff_forall_not_mem.mpr λp hp=>c3 p ((Ij p).mp hp);have l3:R'.length=3:=by simp at hl;omega
   refine ⟨by show 0≤sizeLine;decide,_,rfl,_,rfl,by show 3≤sizeLine;decide,?_⟩
   refine q [] [] 1 (λx hx=>nomatch hx) (by decide) (by decide) (by rw [e0];exact .refl _) ?_ ?_
   ·show 0+1=_
    unfold tri;rw [e0];simp;omega
   ·show 0+2≤_
    unfold tri;rw [e0];simp;omega
  ·refine ⟨_,rfl,pN (decide_eq_false (by rw [zj];omega)) ?_⟩
   have k2:=(E2.sh g).rm g;have e1:(0:Int)<((R2.map af).length:Int):=by rw [zj];omega
   refine ⟨_,rfl,⟨by decide,by decide⟩,_,rfl,e1,trivial,?_⟩
   have m1:=gU (num / 3) ((R2.map af).length:Int) e1;refine uD [some (.eE w'),some (ao R'),some (.int num),some (.lst (cs.map pairD)),none,some (.tup [ao I,ao R2]),some (ao I),some (ao R2),some (.int (num / 3%((R2.map af).length:Int)))] rfl ?_;generalize num / 3%((R2.map af).length:Int)=at_ at m1;obtain ⟨a,rfl⟩:∃a:Nat,at_=(a:Int):=⟨at_.toNat,by omega⟩
   rw [zj] at m1;have ca:cutD (R2.map af) (some (a:Int)) none=(R2.drop a).map af:=by rw [eH _ _ (by rw [zj];omega),mP]
   have cb:cutD (R2.map af) none (some (a:Int))=(R2.take a).map af:=by rw [eJ _ _ (by rw [zj];omega),mO]
   have nH:(cutD (R2.map af) (some (a:Int)) none).length+(cutD (R2.map af) none (some (a:Int))).length≤sizeLine:=by
    rw [ca,cb,aK,aK,fw,cm];exact small (by omega)
   have er:(.lst (cutD (R2.map af) (some (a:Int)) none++cutD (R2.map af) none (some (a:Int))):D)=ao (R2.drop a++R2.take a):=by rw [ca,cb];unfold ao;rw [dr]
   refine ⟨_,rfl,_,rfl,_,rfl,_,rfl,nH,by show 1≤sizeLine;decide,_,rfl,_,rfl,by show 3≤sizeLine;decide,?_⟩
   rw [er]
   have E3:Disc w' (R2.drop a++R2.take a) A2:=by
    have:=E2
    rw [←gO a R2] at this;exact this.D3
   have i3:=jH g E3;have l3:=Jx R2 a
   have mr:∀p,dj (R2.drop a++R2.take a) A2 p↔dj R2 A2 p:=λp=>by
    unfold dj;rw [cv,Or.comm,←cv,gO]
   generalize R2.drop a++R2.take a=R3 at E3 i3 l3 mr
   have pm:(dk w' R' A').Perm (I++dk w' R3 A2):=by
    refine (vz (gG ..) (fe.mpr ⟨nI,gG ..,λx hx y hy e=>c3 x hx ((mr x).mp ((i3 x).mp (e▸hy)))⟩)).mpr λp=>?_;rw [cv,Ij,i3,mr,c2]
   have pl:=pm.length_eq;rw [b9] at pl;have eq:(D.tup [.lst [ao R3],ao I, .int (((I.map af).length:Int)+1)])= .tup [.lst ([((R3,A2):RA)].map λx=>ao x.1),ao I,af (I.length+1)]:=by rw [ZJ];rfl
   refine (?_:R (D.tup [.lst [ao R3],ao I, .int (((I.map af).length:Int)+1)]));rw [eq];refine q [(R3,A2)] I (I.length+1) ?_ (by show 1≤2;decide) lI (by show (dk w' R' A').Perm (I++(dk w' R3 A2++ []));rw [hJ];exact pm) ?_ ?_
   ·intro x hx
    rw [fL] at hx;rw [hx];exact E3
   ·show (tri w' R3 A2+0)+(I.length+1)=_
    unfold tri;omega
   ·show (2*tri w' R3 A2-1+0)+2≤_
    unfold tri;omega
variable {P:Program} {w:World} {mg:Str→Option Value} {base:Heap} {Z:DC} (T:Txt Z mg)
theorem Ca(w:W)(a b:List RA):sW w (a++b)=sW w a+sW w b:=by unfold sW;rw [dr,List.sum_append]
theorem Cc(w:W)(a b:List RA):Cb w (a++b)=Cb w a+Cb w b:=by unfold Cb;rw [dr,List.sum_append]
theorem wO(w:W)(a b:List RA):rO w (a++b)=rO w a++rO w b:=by unfold rO;rw [AF]
theorem rB(L:List RA){P:D→Prop}(h:P (.bl L.isEmpty)):yT (.lst (L.map λx=>ao x.1)) (.lst []) P:=by
 have e:=Hl (v:=L.map (·.1)) (w:= []) (P:=P);unfold aN at e;rw [gh] at e;refine e ?_
 have:decide (L.map (·.1)= [])=L.isEmpty:=by cases L<;>rfl
 rw [this];exact h
theorem K7:FnOk P w Z.K mg base cO 7 T.d_law.f T.d_law.fd ["_law_script"] (aV Z Fm):=by
 have nd:=Fi.nd;refine br T.d_law.F Fi [0,0,0,0,0,1,0,0,0,0,0,0] (by decide) (λds R h=>by obtain ⟨_,rfl,_⟩:=h;rfl) (λbF A outer s H E ds R hr h=>?_)
 have hu:=hr.units
 refine ⟨_,(ah (pk (az T.d__law_built (uG T) hr (ab (aa 0) ag)) (fz 2 rfl (aZ (aL 1 nd) (aZ (aL 2 nd) cQ))))
   (ah (aE false 3 nd (az T.d__law_web (zC T) hr (ab (aa 1) ag)))
   (ah (aE false 4 nd (az T.d__law_drawn (fX T) hr (ab (az T.d__law_cell_at (eW T) hr (ab (aa 0) (ab au ag))) ag)))
   (ah (tw 5 nd (tq (ab (j3 oZ rfl T.B.list lJ (ab (aa 2) ag)) ag)))
   (ah (aE false 6 nd (cx ag))
   (ah (aE false 7 nd au)
   (ah (pz rfl PassesOwn.never (oq rfl T.B.range (ab au ag)) (aL 8 nd) (ah (bX (bp (jr hu) (aa 5) (cx ag) (bw _)) (aq FG) bg)
   (ah (yX 9 5 nd)
   (ah (aE false 10 nd (az T.d__law_step (wb T) hr (ab (aa 3) (ab (aa 9) (ab (aB cJ (aa 4) au) ag)))))
   (ah (bX (DW.dt (t8 (bp oO (aa 10) cR (bw _)) (tx (mW (i8 (az T.d__law_is_ring (qZ T) hr (ab (aa 3) (ab (aa 9) ag)))))))) (aq (aJ qG)) bg)
   (ah (aE false 4 nd (aB fV (aa 4) au))
   (ah (HB 5 nd (bJ (aa 10) au))
   (ah (aE false 6 nd (aB bO (aa 6) (bJ (aa 10) au)))
   (aq (aE false 7 nd (aB bO (aa 7) (bJ (aa 10) au))))))))))))
   (ah (wF 11 (NC:= ["_law_point","_law_ring"]) (src:= [none,some 2]) rfl nd (sI (av zO)) ⟨rfl,rfl,trivial⟩ (om rfl T.B.range (ab (ay aP rfl T.B.len aO (ab (aa 1) ag)) ag)) (λ_ _ _=>(cD 0 (show (["_law_point","_law_ring"]:List Str).Nodup from by decide+kernel))) (λ_ _ _=>(pA (bp qX (aa 0) (aa 1) (by with_unfolding_all rfl)))) (λ_ _ _=>(aa 0)))
   (aq (aJ (mU (j4 (jr hu) (aa 5) (cx ag) (bw _)) (mU (j4 (jr hu) (ay qF rfl T.B.sorted iD (ab (aa 6) ag)) (aa 11) (bw _)) (tj (j4 (jr hu) (aa 7) (aB ie (aB ie (aB tE au (ay aP rfl T.B.len aO (ab (aa 1) ag))) (ay aP rfl T.B.len aO (ab (aa 2) ag))) au) (bw _))))))))))))))),?_⟩
 obtain ⟨ns,rfl,zf,q⟩:=h;refine ⟨_,rfl,ns,rfl,λF R' g B h3 bE Fl=>?_⟩;have Ti:=Disc.sh Fl g;have Gv:=Ti.rm g;have R3:=Ti.len;have lR:(R'.map af).length=R'.length:=aK _;have lF:(F.map ao).length=F.length:=aK _;refine ⟨rfl,rfl,?_⟩;refine ⟨_,rfl,F,rfl,g,by omega,bE,trivial,?_⟩
 refine ⟨_,rfl,ns,2,rfl,λv1=>⟨v1,rfl,λv2=>⟨trivial,?_⟩⟩⟩;refine ⟨_,rfl,by show 1≤sizeLine;decide,?_⟩
 refine ⟨by show 0≤sizeLine;decide,trivial,?_⟩
 refine ⟨trivial,?_⟩;refine ⟨⟨by decide,by decide⟩,?_⟩
 rw [show ((80:Int)).toNat=80 from rfl];have eI:=Fl.iZ g (by omega)
 have mI:=jH g Fl
 have tR:tri F R' (λd=>aG F d∧¬bL R' d.1 d.2)+R'.length+2=2*F.length:=by
  have pm:(dk F R' λd=>aG F d∧¬bL R' d.1 d.2).Perm ((List.range F.length).filter λp=>decide (p∉R')):=(vz (gG ..) (kF.filter _)).mpr λp=>by
   rw [mI,eI,kU,bH,decide_eq_true_eq]
  have l1:=pm.length_eq
  have l2:((List.range F.length).filter λp=>decide (p∉R')).length+((List.range F.length).filter λp=>decide (p∈R')).length=F.length:=by
   have:=(List.filter_append_perm (λp=>decide (p∈R')) (List.range F.length)).length_eq
   rw [b9,ji] at this
   have e:(List.range F.length).filter (λp=>!decide (p∈R'))=(List.range F.length).filter λp=>decide (p∉R'):=by
    congr 1;funext p;simp
   rw [e] at this;omega
  have l3:((List.range F.length).filter λp=>decide (p∈R')).length=R'.length:=((vz (kF.filter _) Ti.nd).mpr λp=>by
   rw [kU,bH,decide_eq_true_eq];exact ⟨λh=>h.2,λh=>⟨Ti.lt g h,h⟩⟩).length_eq
  unfold tri;omega
 have il:(dk F R' λd=>aG F d∧¬bL R' d.1 d.2).length≤14:=by
  have:=aM (m:=List.range F.length) (gG F R' _) λp hp=>bH.mpr ((eI p).mp ((mI p).mp hp)).1
  rw [ji] at this;omega
 have PV:Disc F R' (λd=>aG F d∧¬bL R' d.1 d.2):=Fl;have Th:=gG F R' (λd=>aG F d∧¬bL R' d.1 d.2);have Te:∀p,p∈dk F R' (λd=>aG F d∧¬bL R' d.1 d.2)↔p<F.length∧p∉R':=λp=>(mI p).trans (eI p);clear mI eI;generalize (λd=>aG F d∧¬bL R' d.1 d.2)=A0 at tR il PV Th Te;refine qK (λj ρ=>∃(L:List RA)(I:List Nat)(used:Nat)(num:Int)(o8 o9 OW:Option D),ρ= [some (.jW ns),some (aN F),some (ao R'),some (.eE F),some (.int num),some (.lst (L.map λx=>ao x.1)),some (ao I),some (af used),o8,o9,OW,none]∧(∀x∈L,Disc F x.1 x.2)∧(dk F R' A0).Perm (I++rO F L)∧Cb F L+used=tri F R' A0∧sW F L+j≤60∧L.length≤1+j) ?_ ?_ ?_
 ·refine ⟨[(R',A0)],[],0,v2,none,none,none,rfl,λx hx=>?_,?_,?_,?_,bx _⟩
  ·rw [fL] at hx;rw [hx];exact PV
  ·show (dk F R' A0).Perm ([]++(dk F R' A0++ []));rw [mN,hJ]
  ·show (tri F R' A0+0)+0=_;omega
  ·show (2*tri F R' A0-1+0)+0≤60;omega
 ·rintro j _ hj ⟨L,I,used,num,o8,o9,OW,rfl,hL,pm,ht,hs,hlen⟩ A hA
  have Il:I.length≤14:=by have:=pm.length_eq;rw [b9] at this;omega
  refine ⟨_,rfl,by show 0≤sizeLine;decide,?_⟩
  rcases AB L with rfl| ⟨L',x,e⟩
  ·refine rB [] ⟨_,rfl,cM ?_⟩
   have pm:I.Perm (dk F R' A0):=by
    have:I++rO F []=I:=hJ _
    rw [this] at pm;exact pm.symm
   have ht:used=tri F R' A0:=by
    have:Cb F []=0:=rfl
    omega
   refine ⟨_,rfl,⟨by omega,by show ((F.map ao).length:Int)<2^62;omega⟩,?_⟩
   rw [show (((F.map ao).length:Int)).toNat=F.length by omega,oR]
   refine lV (ρ:= [none,some (ao R')]) af (λp=>decide (p∉R')) af (List.range F.length) _ [] _ (λp hp Y Nn t1 t2=>?_) ⟨none,rfl⟩ (by rw [qB,mL,ji];exact small (by omega)) λaA=>?_
   ·refine ⟨_,rfl,_,rfl,rfl,ck _,_,rfl,?_⟩
    refine (?_:if (if true=true then !inD (af p) (R'.map af) else _)=true then _ else _);rw [if_pos rfl,iJ,show (!decide (p∈R'))=decide (p∉R') by simp]
    exact eo (λe=>⟨_,rfl,t1 e⟩) (λe=>t2 e)
   rw [mN];refine ⟨trivial,?_⟩;have so:((List.range F.length).filter λp=>decide (p∉R')).Pairwise (·<·):=List.pairwise_lt_range.filter _;have mo:∀p,p∈(List.range F.length).filter (λp=>decide (p∉R'))↔p<F.length∧p∉R':=λp=>by rw [kU,bH,decide_eq_true_eq]
   generalize (List.range F.length).filter (λp=>decide (p∉R'))=O at so mo;refine ⟨_,rfl,by show 0≤sizeLine;decide,?_⟩
   refine rB [] ⟨_,rfl,cM ?_⟩;refine ⟨_,rfl,?_⟩;dsimp only [pd];refine ng (by omega) λM pmM nG=>?_
   have eM:M=O:=by
    refine By nG (BS so) (pmM.trans (pm.trans ((vz Th (so.imp λh=>bQ h)).mpr λp=>?_)));rw [Te,mo]
   subst eM;refine ⟨_,rfl,Hk ⟨true,congrArg D.bl (decide_eq_true rfl),cM ?_⟩⟩;refine ⟨_,rfl,_,rfl, .inl ⟨by decide,by decide⟩,_,rfl,?_⟩
   refine tY ?_;rw [decide_eq_true (by dsimp only;rw [lR,lF];omega)]
   exact q
  ·rw [Co] at e
   subst e;refine rB (L'++ [x]) ⟨_,rfl,pN (by cases L'<;>rfl) ?_⟩
   refine ⟨L'.map λx=>ao x.1,ao x.1,by rw [dr];rfl,?_⟩
   have Dx:=hL x (by simp)
   refine ⟨_,rfl,_,rfl,_,rfl,(by show (0:Int)<90;decide),F,x.1,x.2,_,rfl,g,B,bE,Dx,λL2 I2 k2 Xn l2 i2 wd t2 s2=>⟨trivial,?_⟩⟩
   refine ⟨_,rfl,_,rfl,cF ?_⟩;refine ⟨_,rfl,_,rfl,F,x.1,rfl,g,bE,Dx.sh g,rfl,cF ?_⟩;refine ⟨_,rfl,⟨by decide,by decide⟩,trivial,?_⟩
   have ll:(L'++ [x]).length=L'.length+1:=by simp
   refine ⟨_,rfl,_,rfl,_,rfl,_,rfl,by rw [aK,aK];exact small (by omega),?_⟩
   refine ⟨_,rfl,_,rfl,_,rfl,by rw [aK,aK];exact small (by omega),trivial,?_⟩
   refine ⟨_,rfl,_,rfl,_,rfl,trivial,?_⟩;rw [Ca] at hs;rw [Cc] at ht;rw [wO] at pm;have e1:sW F [x]=2*tri F x.1 x.2-1:=rfl;have e2:Cb F [x]=tri F x.1 x.2:=rfl;have e3:rO F [x]=dk F x.1 x.2:=by show dk F x.1 x.2++ []=_;rw [hJ]
   refine hA _ ⟨L'++L2,I++I2,used+k2,num / 90,some (af j),some (ao x.1),some (.tup [.lst (L2.map λx=>ao x.1),ao I2,af k2]),?_,λy hy=>?_,?_,?_,?_,?_⟩
   ·rw [show ao (I++I2)= .lst (I.map af++I2.map af) by unfold ao;rw [dr],show (L'++L2).map (λx:RA=>ao x.1)=L'.map (λx:RA=>ao x.1)++L2.map (λx:RA=>ao x.1) from dr ..];rfl
   ·rcases cv.mp hy with hy|hy
    ·exact hL y (fb _ hy)
    ·exact Xn y hy
   ·rw [wO]
    refine pm.trans ?_;rw [e3,kR];refine .append_left _ ?_;refine ((List.Perm.refl _).append wd).trans ?_;rw [←kR,←kR];exact (fj).append_right _
   ·rw [Cc];omega
   ·rw [Ca];omega
   ·rw [b9];omega
 ·rintro _ ⟨L,I,used,num,o8,o9,OW,rfl,hL,pm,ht,hs,hlen⟩
  omega
theorem all_mk{l:PySem.W.OpenLaw}{w:World}{K:PySem.W.Frag}{h:Heap}{mg:Str→Option Value}{fa C:Addr}{PJ:Tok}(X:K.In h)(G:h.Ns mainGlobals mg)(Xy:mg "law"=some (.ref fa))
  {d0:Addr} {od0 V2:Option Addr} {sl0:Array (Option Value)} {oc0 Zg WO pm0 Qo Wx:Value}
  {d1:Addr} {od1 V3:Option Addr} {sl1:Array (Option Value)} {oc1 Zh WQ Ji Qp Wy:Value}
  {d2:Addr} {od2 V4:Option Addr} {LB:Array (Option Value)} {oc2 Zi WR wd Qq Wz:Value}
  {d3:Addr} {od3 V5:Option Addr} {sl3:Array (Option Value)} {oc3 Zj WS pm3 Qr WA:Value}
  {d4:Addr} {od4 V6:Option Addr} {sl4:Array (Option Value)} {oc4 Zk WT pm4 Qs WB:Value}
  {d5:Addr} {od5 V7:Option Addr} {sl5:Array (Option Value)} {oc5 Zl WU pm5 Qt WC:Value}
  {d6:Addr} {od6 V8:Option Addr} {sl6:Array (Option Value)} {oc6 Zm WV pm6 Qu WD:Value}
  {d7:Addr} {od7 V9:Option Addr} {sl7:Array (Option Value)} {oc7 Zn WW pm7 Qv WE:Value}
  {d8:Addr} {od8 Wa:Option Addr} {sl8:Array (Option Value)} {oc8 Zo WX pm8 Qw WG:Value}
  {d9:Addr} {od9 Wc:Option Addr} {sl9:Array (Option Value)} {oc9 Zp WY pm9 Qx WH:Value}
  {M9:Addr} {TQ P6:Option Addr} {UW:Array (Option Value)} {Ts SH Ra Ui L4 QA:Value}
  {Na:Addr} {TR P7:Option Addr} {UX:Array (Option Value)} {Tt SJ Rb Uj L5 QB:Value}
  {Nb:Addr} {TU P8:Option Addr} {UY:Array (Option Value)} {Tu SK Rc Uk L6 QC:Value}
  {Nc:Addr} {TV P9:Option Addr} {UZ:Array (Option Value)} {Tv SM Rf Ul L7 QD:Value}
  {Nd:Addr} {TX Qa:Option Addr} {U0:Array (Option Value)} {Tw SN Rg Um L8 QE:Value}
  {Nf:Addr} {TY Qb:Option Addr} {U2:Array (Option Value)} {Tx SO Rh Up L9 QF:Value}
  {Ng:Addr} {TZ Qc:Option Addr} {U3:Array (Option Value)} {Tz SQ Ri Uq Ma QG:Value}
  {Nh:Addr} {T3 Qd:Option Addr} {U4:Array (Option Value)} {TB SR Rj Ur Mb QH:Value}
  {Ni:Addr} {T4 Qe:Option Addr} {U5:Array (Option Value)} {TC SS Rk Us Mc QI:Value}
  {Nj:Addr} {T5 Qf:Option Addr} {U6:Array (Option Value)} {TF SU Rl Ut Md QJ:Value}
  {Nk:Addr} {T6 Qg:Option Addr} {U7:Array (Option Value)} {TH SV Rm Uu Me QK:Value}
  {Nl:Addr} {T7 Qh:Option Addr} {U8:Array (Option Value)} {TJ SW Ro Uw Mf QL:Value}
  {Nm:Addr} {T8 Qi:Option Addr} {U9:Array (Option Value)} {TK SX Rp Uy Mg QM:Value}
  {Np:Addr} {T9 Qj:Option Addr} {Va:Array (Option Value)} {TL SY Rq Uz Mh QN:Value}
  {Nq:Addr} {Ub Qk:Option Addr} {Vb:Array (Option Value)} {TM S0 Rr UA Mi QO:Value}
  {Nr:Addr} {Uc Ql:Option Addr} {Vc:Array (Option Value)} {TN S8 Rt UB Mj QP:Value}
  {i0:Addr} {Yi Yu:Option Addr} {YM:Array (Option Value)} {Yc Yo YA YG Sy YT:Value}
  {i1:Addr} {Yj Yv:Option Addr} {YN:Array (Option Value)} {Yd Yp YB YH Sz YU:Value}
  {i2:Addr} {Yk Yw:Option Addr} {YO:Array (Option Value)} {Ye Yq YC YI SA YV:Value}
  {i3:Addr} {Yl Yx:Option Addr} {YQ:Array (Option Value)} {Yf Yr YD YJ SD YW:Value}
  {i4:Addr} {Ym Yy:Option Addr} {YR:Array (Option Value)} {Yg Ys YE YK SE YX:Value}
  {i5:Addr} {Yn Yz:Option Addr} {YS:Array (Option Value)} {Yh Yt YF YL SG YY:Value}
  (gC:PySem.W.nsIn K mainGlobals "Web"=some (some (.ref C)))
  (a0:gm K "is_among" d0)
  (l0:eQ K "is_among" "is_among" mm d0 od0 V2 sl0 oc0 Zg WO pm0 Qo Wx)
  (c0:PySem.W.codeIn K Qo "is_among"=true)
  (k0:PySem.W.keepIn K (.ref d0)=true)
  (a1:gm K "alien_fault" d1)
  (l1:eQ K "alien_fault" "alien_fault" iQ d1 od1 V3 sl1 oc1 Zh WQ Ji Qp Wy)
  (c1:PySem.W.codeIn K Qp "alien_fault"=true)
  (k1:PySem.W.keepIn K (.ref d1)=true)
  (a2:gm K "self_fault" d2)
  (l2:eQ K "self_fault" "self_fault" jz d2 od2 V4 LB oc2 Zi WR wd Qq Wz)
  (c2:PySem.W.codeIn K Qq "self_fault"=true)
  (k2:PySem.W.keepIn K (.ref d2)=true)
  (a3:gm K "twice_fault" d3)
  (l3:eQ K "twice_fault" "twice_fault" iT d3 od3 V5 sl3 oc3 Zj WS pm3 Qr WA)
  (c3:PySem.W.codeIn K Qr "twice_fault"=true)
  (k3:PySem.W.keepIn K (.ref d3)=true)
  (a4:gm K "lone_fault" d4)
  (l4:eQ K "lone_fault" "lone_fault" jy d4 od4 V6 sl4 oc4 Zk WT pm4 Qs WB)
  (c4:PySem.W.codeIn K Qs "lone_fault"=true)
  (k4:PySem.W.keepIn K (.ref d4)=true)
  (a5:gm K "reached_from_first" d5)
  (l5:eQ K "reached_from_first" "reached_from_first" cK d5 od5 V7 sl5 oc5 Zl WU pm5 Qt WC)
  (c5:PySem.W.codeIn K Qt "reached_from_first"=true)
  (k5:PySem.W.keepIn K (.ref d5)=true)
  (a6:gm K "apart_fault" d6)
  (l6:eQ K "apart_fault" "apart_fault" iR d6 od6 V8 sl6 oc6 Zm WV pm6 Qu WD)
  (c6:PySem.W.codeIn K Qu "apart_fault"=true)
  (k6:PySem.W.keepIn K (.ref d6)=true)
  (a7:gm K "first_fault" d7)
  (l7:eQ K "first_fault" "first_fault" iS d7 od7 V9 sl7 oc7 Zn WW pm7 Qv WE)
  (c7:PySem.W.codeIn K Qv "first_fault"=true)
  (k7:PySem.W.keepIn K (.ref d7)=true)
  (a8:gm K "begun_at" d8)
  (l8:eQ K "begun_at" "begun_at" mj d8 od8 Wa sl8 oc8 Zo WX pm8 Qw WG)
  (c8:PySem.W.codeIn K Qw "begun_at"=true)
  (k8:PySem.W.keepIn K (.ref d8)=true)
  (a9:gm K "within_at" d9)
  (l9:eQ K "within_at" "within_at" kA d9 od9 Wc sl9 oc9 Zp WY pm9 Qx WH)
  (c9:PySem.W.codeIn K Qx "within_at"=true)
  (k9:PySem.W.keepIn K (.ref d9)=true)
  (VN:gm K "chords" M9)
  (Zs:eQ K "chords" "chords" jS M9 TQ P6 UW Ts SH Ra Ui L4 QA)
  (We:PySem.W.codeIn K L4 "chords"=true)
  (Y0:PySem.W.keepIn K (.ref M9)=true)
  (VO:gm K "points_within" Na)
  (Zt:eQ K "points_within" "points_within" e6 Na TR P7 UX Tt SJ Rb Uj L5 QB)
  (Wf:PySem.W.codeIn K L5 "points_within"=true)
  (Y1:PySem.W.keepIn K (.ref Na)=true)
  (VP:gm K "parted" Nb)
  (Zu:eQ K "parted" "parted" rz Nb TU P8 UY Tu SK Rc Uk L6 QC)
  (Wg:PySem.W.codeIn K L6 "parted"=true)
  (Y2:PySem.W.keepIn K (.ref Nb)=true)
  (VQ:gm K "made_less" Nc)
  (Zv:eQ K "made_less" "made_less" kz Nc TV P9 UZ Tv SM Rf Ul L7 QD)
  (Wh:PySem.W.codeIn K L7 "made_less"=true)
  (Y3:PySem.W.keepIn K (.ref Nc)=true)
  (VR:gm K "_law_cell_at" Nd)
  (Zw:eQ K "_law_cell_at" "_law_cell_at" gX Nd TX Qa U0 Tw SN Rg Um L8 QE)
  (Wi:PySem.W.codeIn K L8 "_law_cell_at"=true)
  (Y4:PySem.W.keepIn K (.ref Nd)=true)
  (VS:gm K "_law_drawn" Nf)
  (Zx:eQ K "_law_drawn" "_law_drawn" jv Nf TY Qb U2 Tx SO Rh Up L9 QF)
  (Wj:PySem.W.codeIn K L9 "_law_drawn"=true)
  (Y5:PySem.W.keepIn K (.ref Nf)=true)
  (VT:gm K "_law_grown" Ng)
  (Zy:eQ K "_law_grown" "_law_grown" jw Ng TZ Qc U3 Tz SQ Ri Uq Ma QG)
  (Wk:PySem.W.codeIn K Ma "_law_grown"=true)
  (Y6:PySem.W.keepIn K (.ref Ng)=true)
  (VU:gm K "_law_named" Nh)
  (Zz:eQ K "_law_named" "_law_named" dR Nh T3 Qd U4 TB SR Rj Ur Mb QH)
  (Wl:PySem.W.codeIn K Mb "_law_named"=true)
  (Y7:PySem.W.keepIn K (.ref Nh)=true)
  (VV:gm K "_law_built" Ni)
  (ZA:eQ K "_law_built" "_law_built" ju Ni T4 Qe U5 TC SS Rk Us Mc QI)
  (Wm:PySem.W.codeIn K Mc "_law_built"=true)
  (Y8:PySem.W.keepIn K (.ref Ni)=true)
  (VW:gm K "_law_web" Nj)
  (ZC:eQ K "_law_web" "_law_web" jc Nj T5 Qf U6 TF SU Rl Ut Md QJ)
  (Wn:PySem.W.codeIn K Md "_law_web"=true)
  (Y9:PySem.W.keepIn K (.ref Nj)=true)
  (VX:gm K "_law_is_ring" Nk)
  (ZD:eQ K "_law_is_ring" "_law_is_ring" gY Nk T6 Qg U7 TH SV Rm Uu Me QK)
  (Wo:PySem.W.codeIn K Me "_law_is_ring"=true)
  (Za:PySem.W.keepIn K (.ref Nk)=true)
  (VY:gm K "_law_parts" Nl)
  (ZE:eQ K "_law_parts" "_law_parts" jx Nl T7 Qh U8 TJ SW Ro Uw Mf QL)
  (Wq:PySem.W.codeIn K Mf "_law_parts"=true)
  (Zb:PySem.W.keepIn K (.ref Nl)=true)
  (VZ:gm K "_law_less" Nm)
  (ZF:eQ K "_law_less" "_law_less" kv Nm T8 Qi U9 TK SX Rp Uy Mg QM)
  (Wr:PySem.W.codeIn K Mg "_law_less"=true)
  (Zc:PySem.W.keepIn K (.ref Nm)=true)
  (V0:gm K "_law_by_chord" Np)
  (ZG:eQ K "_law_by_chord" "_law_by_chord" eZ Np T9 Qj Va TL SY Rq Uz Mh QN)
  (Ws:PySem.W.codeIn K Mh "_law_by_chord"=true)
  (Zd:PySem.W.keepIn K (.ref Np)=true)
  (V1:gm K "_law_step" Nq)
  (ZH:eQ K "_law_step" "_law_step" kx Nq Ub Qk Vb TM S0 Rr UA Mi QO)
  (Wt:PySem.W.codeIn K Mi "_law_step"=true)
  (Ze:PySem.W.keepIn K (.ref Nq)=true)
  (P1:gm K "law" Nr)
  (ZI:eQ K "law" "law" zO Nr Uc Ql Vc TN S8 Rt UB Mj QP)
  (Wu:PySem.W.codeIn K Mj "law"=true)
  (Zf:PySem.W.keepIn K (.ref Nr)=true)
  (m0:PySem.W.findIn K (.ref C) "__init__"=some (some (.ref i0)))
  (f0:PySem.W.isFn K (.ref i0)=true)
  (ZZ:eQ K "__init__" "Web.__init__" dP i0 Yi Yu YM Yc Yo YA YG Sy YT)
  (ZM:PySem.W.codeIn K Sy "Web.__init__"=true)
  (ZS:PySem.W.keepIn K (.ref i0)=true)
  (m1:PySem.W.findIn K (.ref C) "many"=some (some (.ref i1)))
  (f1:PySem.W.isFn K (.ref i1)=true)
  (Z0:eQ K "many" "Web.many" rY i1 Yj Yv YN Yd Yp YB YH Sz YU)
  (ZN:PySem.W.codeIn K Sz "Web.many"=true)
  (ZT:PySem.W.keepIn K (.ref i1)=true)
  (m2:PySem.W.findIn K (.ref C) "turns"=some (some (.ref i2)))
  (f2:PySem.W.isFn K (.ref i2)=true)
  (Z1:eQ K "turns" "Web.turns" ij i2 Yk Yw YO Ye Yq YC YI SA YV)
  (ZO:PySem.W.codeIn K SA "Web.turns"=true)
  (ZU:PySem.W.keepIn K (.ref i2)=true)
  (m3:PySem.W.findIn K (.ref C) "ties"=some (some (.ref i3)))
  (f3:PySem.W.isFn K (.ref i3)=true)
  (Z2:eQ K "ties" "Web.ties" rZ i3 Yl Yx YQ Yf Yr YD YJ SD YW)
  (ZP:PySem.W.codeIn K SD "Web.ties"=true)
  (ZV:PySem.W.keepIn K (.ref i3)=true)
  (m4:PySem.W.findIn K (.ref C) "tied"=some (some (.ref i4)))
  (f4:PySem.W.isFn K (.ref i4)=true)
  (Z3:eQ K "tied" "Web.tied" mh i4 Ym Yy YR Yg Ys YE YK SE YX)
  (ZQ:PySem.W.codeIn K SE "Web.tied"=true)
  (ZW:PySem.W.keepIn K (.ref i4)=true)
  (m5:PySem.W.findIn K (.ref C) "behind"=some (some (.ref i5)))
  (f5:PySem.W.isFn K (.ref i5)=true)
  (Z4:eQ K "behind" "Web.behind" nU i5 Yn Yz YS Yh Yt YF YL SG YY)
  (ZR:PySem.W.codeIn K SG "Web.behind"=true)
  (ZX:PySem.W.keepIn K (.ref i5)=true)
  (pgC:PySem.W.plainGet K C Str.empty=true)
  (CU:PySem.W.hasDictIn K C=true)
  (poC:PySem.W.plainOver K C=true)
  (saC:PySem.W.findIn K (.ref C) "__setattr__"=some (some (.builtin "object.__setattr__")))
  (ZY:PySem.W.makesIn K C=true)
  (Zr:PySem.W.keepIn K (.ref C)=true)
  (nR:PySem.W.findIn K (.ref C) "rows"=some none)
  (Wv:PySem.W.nsIn K mainGlobals "MOST_POINTS"=some (some (.int 14 PJ)))
  (VD:PySem.W.nsIn K mainGlobals "len"=some none)
  (LU:PySem.W.nsIn K mainGlobals "range"=some none)
  (VE:PySem.W.nsIn K mainGlobals "max"=some none)
  (VF:PySem.W.nsIn K mainGlobals "min"=some none)
  (Ci:PySem.W.nsIn K mainGlobals "enumerate"=some none)
  (VI:PySem.W.nsIn K mainGlobals "zip"=some none)
  (J2:PySem.W.nsIn K mainGlobals "sorted"=some none)
  (VB:PySem.W.nsIn K mainGlobals "all"=some none)
  (Aw:PySem.W.nsIn K mainGlobals "isinstance"=some none)
  (VC:PySem.W.nsIn K mainGlobals "int"=some none)
  (PM:PySem.W.nsIn K mainGlobals "bool"=some none)
  (PN:PySem.W.nsIn K mainGlobals "list"=some none)
  (LV:PySem.W.nsIn K mainGlobals "tuple"=some none)
  (VH:PySem.W.nsIn K mainGlobals "sum"=some none)
  (Es:PySem.W.nsIn K mainGlobals "reversed"=some none)
  (VG:PySem.W.nsIn K mainGlobals "set"=some none)
  :∃fd:FuncData,(∀(s:Shared)(v:Value),BindsTo s fd ⟨[v],[]⟩ [("_law_script",v)])∧∀base:Heap,K.In base→base.Ns mainGlobals mg→FnOk l.prog w K mg base cO 40 fa fd ["_law_script"] (L2.qk K):=by
 have e:=Xy.symm.trans (PySem.W.mg_of X G P1);cases e;have E0:=pH (st:=dP) ZZ ZM ZS;have e0:=E0.binds (ps:= ["self","turns"]) (λ_ _ _ _ _ _ _ hl=>by obtain ⟨_,_,rfl⟩:=L2.lW hl;rfl)
 let Z:DC:=⟨K,C⟩
 let T:Txt Z mg:=⟨⟨PySem.W.mg_none_of X G VD,PySem.W.mg_none_of X G LU,PySem.W.mg_none_of X G VE,PySem.W.mg_none_of X G VF,PySem.W.mg_none_of X G Ci,PySem.W.mg_none_of X G VI,PySem.W.mg_none_of X G J2,PySem.W.mg_none_of X G VB,PySem.W.mg_none_of X G Aw,PySem.W.mg_none_of X G VC,PySem.W.mg_none_of X G PM,PySem.W.mg_none_of X G PN,PySem.W.mg_none_of X G LV,PySem.W.mg_none_of X G VH,PySem.W.mg_none_of X G Es⟩,PySem.W.mg_none_of X G VG, .of X G a0 l0 c0 k0 (λ_ _ _ _ _ _ _ hl=>by obtain ⟨_,_,rfl⟩:=L2.lW hl;rfl), .of X G a1 l1 c1 k1 (λ_ _ _ _ _ _ _ hl=>by obtain ⟨_,rfl⟩:=L2.gH hl;rfl), .of X G a2 l2 c2 k2 (λ_ _ _ _ _ _ _ hl=>by obtain ⟨_,rfl⟩:=L2.gH hl;rfl), .of X G a3 l3 c3 k3 (λ_ _ _ _ _ _ _ hl=>by obtain ⟨_,rfl⟩:=L2.gH hl;rfl), .of X G a4 l4 c4 k4 (λ_ _ _ _ _ _ _ hl=>by obtain ⟨_,rfl⟩:=L2.gH hl;rfl), .of X G a5 l5 c5 k5 (λ_ _ _ _ _ _ _ hl=>by obtain ⟨_,rfl⟩:=L2.gH hl;rfl), .of X G a6 l6 c6 k6 (λ_ _ _ _ _ _ _ hl=>by obtain ⟨_,rfl⟩:=L2.gH hl;rfl), .of X G a7 l7 c7 k7 (λ_ _ _ _ _ _ _ hl=>by obtain ⟨_,rfl⟩:=L2.gH hl;rfl), .of X G a8 l8 c8 k8 (λ_ _ _ _ _ _ _ hl=>by obtain ⟨_,_,rfl⟩:=L2.lW hl;rfl), .of X G a9 l9 c9 k9 (λ_ _ _ _ _ _ _ hl=>by obtain ⟨_,_,_,rfl⟩:=L2.rS hl;rfl), .of X G VN Zs We Y0 (λ_ _ _ _ _ _ _ hl=>by obtain ⟨_,_,rfl⟩:=L2.lW hl;rfl), .of X G VO Zt Wf Y1 (λ_ _ _ _ _ _ _ hl=>by obtain ⟨_,_,rfl⟩:=L2.lW hl;rfl), .of X G VP Zu Wg Y2 (λ_ _ _ _ _ _ _ hl=>by obtain ⟨_,_,_,rfl⟩:=L2.rS hl;rfl), .of X G VQ Zv Wh Y3 (λ_ _ _ _ _ _ _ hl=>by obtain ⟨_,_,rfl⟩:=L2.lW hl;rfl), .of X G VR Zw Wi Y4 (λ_ _ _ _ _ _ _ hl=>by obtain ⟨_,_,rfl⟩:=L2.lW hl;rfl), .of X G VS Zx Wj Y5 (λ_ _ _ _ _ _ _ hl=>by obtain ⟨_,rfl⟩:=L2.gH hl;rfl), .of X G VT Zy Wk Y6 (λ_ _ _ _ _ _ _ hl=>by obtain ⟨_,rfl⟩:=L2.gH hl;rfl), .of X G VU Zz Wl Y7 (λ_ _ _ _ _ _ _ hl=>by obtain ⟨_,_,_,rfl⟩:=L2.rS hl;rfl), .of X G VV ZA Wm Y8 (λ_ _ _ _ _ _ _ hl=>by obtain ⟨_,rfl⟩:=L2.gH hl;rfl), .of X G VW ZC Wn Y9 (λ_ _ _ _ _ _ _ hl=>by obtain ⟨_,rfl⟩:=L2.gH hl;rfl), .of X G VX ZD Wo Za (λ_ _ _ _ _ _ _ hl=>by obtain ⟨_,_,rfl⟩:=L2.lW hl;rfl), .of X G VY ZE Wq Zb (λ_ _ _ _ _ _ _ hl=>by obtain ⟨_,_,_,_,rfl⟩:=L2.Tc hl;rfl), .of X G VZ ZF Wr Zc (λ_ _ _ _ _ _ _ hl=>by obtain ⟨_,_,rfl⟩:=L2.lW hl;rfl), .of X G V0 ZG Ws Zd (λ_ _ _ _ _ _ _ hl=>by obtain ⟨_,_,_,rfl⟩:=L2.rS hl;rfl), .of X G V1 ZH Wt Ze (λ_ _ _ _ _ _ _ hl=>by obtain ⟨_,_,_,rfl⟩:=L2.rS hl;rfl), .of X G P1 ZI Wu Zf (λ_ _ _ _ _ _ _ hl=>by obtain ⟨_,rfl⟩:=L2.gH hl;rfl),⟨⟨pgC,CU,poC,saC⟩,nR⟩,PySem.W.mg_of X G gC,i0,_,E0,⟨ZY,m0,f0,Zr⟩,e0, .of m1 f1 Z0 ZN ZT (λ_ _ _ _ _ _ _ hl=>by obtain ⟨_,rfl⟩:=L2.gH hl;rfl), .of m2 f2 Z1 ZO ZU (λ_ _ _ _ _ _ _ hl=>by obtain ⟨_,rfl⟩:=L2.gH hl;rfl), .of m3 f3 Z2 ZP ZV (λ_ _ _ _ _ _ _ hl=>by obtain ⟨_,rfl⟩:=L2.gH hl;rfl), .of m4 f4 Z3 ZQ ZW (λ_ _ _ _ _ _ _ hl=>by obtain ⟨_,_,_,rfl⟩:=L2.rS hl;rfl), .of m5 f5 Z4 ZR ZX (λ_ _ _ _ _ _ _ hl=>by obtain ⟨_,_,_,rfl⟩:=L2.rS hl;rfl),⟨PJ,PySem.W.mg_of X G Wv⟩⟩
 exact ⟨_,λs v=> .of_eq rfl,λbase _ _=>(((K7 (P:=l.prog) (w:=w) (base:=base) T).mono (by decide)).imp (L2.KU (Z:=Z)))⟩
theorem walk{l:PySem.W.OpenLaw}{q:Program}{loose:List Str}{XP:(Str→Option Value)→Heap→Prop}{YP:World→Heap→Prop}{d:DefRec}{K:Params→PySem.W.Frag}(hn:l.most=some 63)(CV:d.params.defaults= [])
  (hY:∀(w:World)(h:Heap),YP w h→(K w.params).In h)
  (F:∀(w:World)(mg:Str→Option Value)(fa:Addr)(h:Heap),(K w.params).In h→h.Ns mainGlobals mg→mg d.name=some (.ref fa)→
   ∃fd:FuncData,(∀(s:Shared)(u:Value),BindsTo s fd ⟨[u],[]⟩ [("_law_script",u)])∧∀base:Heap,(K w.params).In base→base.Ns mainGlobals mg→FnOk l.prog w (K w.params) mg base cO 40 fa fd ["_law_script"] (qk (K w.params))):
  PySem.W.WalkO q loose XP YP l.row.toRowW d [] (λf vs=>PySem.call f vs):=L2.PL 40 (by decide) hn CV hY F
end oh
def PySem.W.Fast.xW:Nat:=0
def PySem.W.Fast.xT:Nat:=0
def PySem.W.Fast.xY:Nat:=0
def PySem.W.Fast.xJ:Nat:=0
def PySem.W.Fast.Ah:Nat:=0
def PySem.W.Fast.xt:Nat:=0
def PySem.W.Fast.Aa:Nat:=0
def PySem.W.Fast.yt:Nat:=0
def PySem.W.Fast.yg:Nat:=0
def PySem.W.Fast.yo:Nat:=0
def PySem.W.Fast.xN:Nat:=0
def PySem.W.Fast.xw:Nat:=0
def PySem.W.Fast.Ag:Nat:=0
def PySem.W.Fast.Ak:Nat:=0
def PySem.W.Fast.zZ:Nat:=0
def PySem.W.Fast.zX:Nat:=0
def PySem.W.Fast.zY:Nat:=0
def PySem.W.Fast.xR:Nat:=0
def PySem.W.Fast.xU:Nat:=0
def PySem.W.Fast.xI:Nat:=0
def PySem.W.Fast.yu:Nat:=0
def PySem.W.Fast.z8:Nat:=0
def PySem.W.Fast.z4:Nat:=0
def PySem.W.Fast.yn:Nat:=0
def PySem.W.Fast.xF:Nat:=0
def PySem.W.Fast.yc:Nat:=0
def PySem.W.Fast.xS:Nat:=0
def PySem.W.Fast.Al:Nat:=0
def PySem.W.Fast.z9:Nat:=0
def PySem.W.Fast.z3:Nat:=0
def PySem.W.Fast.xP:Nat:=0
def PySem.W.Fast.z5:Nat:=0
def PySem.W.Fast.xG:Nat:=0
def PySem.W.Fast.xA:Nat:=0
def PySem.W.Fast.xB:Nat:=0
def PySem.W.Fast.z7:Nat:=0
def PySem.W.Fast.yw:Nat:=0
def PySem.W.Fast.Ac:Nat:=0
def PySem.W.Fast.yq:Nat:=0
def PySem.W.Fast.xQ:Nat:=0
def PySem.W.Fast.xV:Nat:=0
def PySem.W.Fast.yh:Nat:=0
def PySem.W.Fast.xC:Nat:=0
def PySem.W.Fast.An:Nat:=0
def PySem.W.Fast.yk:Nat:=0
def PySem.W.Fast.xD:Nat:=0
def PySem.W.Fast.ye:Nat:=0
def PySem.W.Fast.Af:Nat:=0
def PySem.W.Fast.yr:Nat:=0
def PySem.W.Fast.yd:Nat:=0
def PySem.W.Fast.Ai:Nat:=0
def PySem.W.Fast.xO:Nat:=0
def PySem.W.Fast.yl:Nat:=0
def PySem.W.Fast.yf:Nat:=0
def PySem.W.Fast.Ae:Nat:=0
def PySem.W.Fast.xM:Nat:=0
def PySem.W.Fast.Am:Nat:=0
def PySem.W.Fast.xK:Nat:=0
def PySem.W.Fast.xu:Nat:=0
def PySem.W.Fast.z6:Nat:=0
def PySem.W.Fast.xX:Nat:=0
def PySem.W.Fast.yp:Nat:=0
def PySem.W.Fast.xH:Nat:=0
def PySem.W.Fast.Ab:Nat:=0
def PySem.W.Fast.Aj:Nat:=0
def PySem.W.Fast.x9:Nat:=0
def PySem.W.Fast.xZ:Nat:=0
def PySem.W.Fast.ya:Nat:=0
def PySem.W.Fast.xE:Nat:=0
open PySem PySem.W PyProof.Rows
set_option maxRecDepth 100000 in
set_option maxHeartbeats 0 in
theorem PySem.Challenge.cw_mapdye_k34_whole_rings_led_down_holds : PySem.Challenge.rw_mapdye_k34_whole_rings_led_down.Holds := by
 w_on;o_law;k_head;(case hw=>w_witness2)
 k_fill
 refine oh.walk (l:=PySem.Challenge.rw_mapdye_k34_whole_rings_led_down) rfl rfl (λw h Y=>PySem.W.kIn_of Y) ?F
 case F=>
  intro w mg fa h KX G C0
  refine' oh.all_mk KX G C0 ?_ ?_ ?_ ?_ ?_ ?_ ?_ ?_ ?_ ?_ ?_ ?_ ?_ ?_ ?_ ?_ ?_ ?_ ?_ ?_ ?_ ?_ ?_ ?_ ?_ ?_ ?_ ?_ ?_ ?_ ?_ ?_ ?_ ?_ ?_ ?_ ?_ ?_ ?_ ?_ ?_ ?_ ?_ ?_ ?_ ?_ ?_ ?_ ?_ ?_ ?_ ?_ ?_ ?_ ?_ ?_ ?_ ?_ ?_ ?_ ?_ ?_ ?_ ?_ ?_ ?_ ?_ ?_ ?_ ?_ ?_ ?_ ?_ ?_ ?_ ?_ ?_ ?_ ?_ ?_ ?_ ?_ ?_ ?_ ?_ ?_ ?_ ?_ ?_ ?_ ?_ ?_ ?_ ?_ ?_ ?_ ?_ ?_ ?_ ?_ ?_ ?_ ?_ ?_ ?_ ?_ ?_ ?_ ?_ ?_ ?_ ?_ ?_ ?_ ?_ ?_ ?_ ?_ ?_ ?_ ?_ ?_ ?_ ?_ ?_ ?_ ?_ ?_ ?_ ?_ ?_ ?_ ?_ ?_ ?_ ?_ ?_ ?_ ?_ ?_ ?_ ?_ ?_ ?_ ?_ ?_ ?_ ?_ ?_ ?_ ?_ ?_ ?_ ?_ ?_ ?_ ?_ ?_ ?_
  all_goals (try (show _=_;k_is))
