import PyProof.Rows.All
import Wide.All
import OpenK.AllK
import Wide.FinOn
import Lean
import PyProof.EqAt
import PyProof.EqKinds
import PyProof.TupleCall
import KE.KSortTup
import PyProof.NeKinds
import PyProof.SetKind
import PyProof.SetRoads
import PyProof.SetNew
import PyProof.WalksS
import PyProof.CollectWalk
import PyProof.TupleKey
import PyProof.IsRules
import PyProof.InstEq
import KE.KRevIter
import PyProof.FitsBits
import PyProof.P3Eq
import PyProof.ListRange
import PyProof.MeetsSeq
import PySem.Challenge.RW_mapdye_k34_whole_rings_led_down
set_option Elab.async false
set_option linter.all false
set_option maxRecDepth 100000
abbrev aK:= @List.getD_eq_getElem?_getD
abbrev bq:= @List.getElem?_eq_getElem
abbrev aJ:= @List.length_map
abbrev bV:= @List.mem_cons_of_mem
abbrev bP:= @List.mem_cons_self
abbrev cj:= @List.length_append
abbrev bh:= @Nat.le_refl
abbrev fC:= @List.getElem?_eq_some_iff
abbrev cm:= @List.mem_range
abbrev eY:= @List.mem_append_right
abbrev bY:= @Bool.false_ne_true
abbrev dH:= @List.getElem?_append_left
abbrev b7:= @List.size_toArray
abbrev b8:= @List.length_take
abbrev fA:= @List.getElem?_append_right
abbrev bQ:= @List.mem_cons
abbrev cq:= @List.mem_append
abbrev dW:= @List.mem_append_left
abbrev fH:= @List.idxOf_lt_length_iff
abbrev bZ:= @Nat.ne_of_lt
abbrev eX:= @List.mem_iff_getElem
abbrev dX:= @List.nodup_append
abbrev b9:= @Nat.zero_le
abbrev eJ:= @List.getElem?_map
abbrev dY:= @List.length_cons
abbrev dJ:= @List.map_append
abbrev eN:= @List.length_drop
abbrev cT:= @List.mem_map
abbrev fI:= @Nat.lt_of_lt_of_le
abbrev gd:= @Array.length_toList
abbrev gD:= @List.mem_of_getElem?
abbrev iH:= @List.take_append_drop
abbrev gE:= @List.getElem_idxOf
abbrev gF:= @List.mem_singleton
abbrev gG:= @List.length_range
abbrev fJ:= @List.nodup_cons
abbrev j3:= @List.getElem?_eq_none
abbrev fB:= @Nat.lt_irrefl
abbrev j4:= @List.getD_cons_succ
abbrev js:= @List.pairwise_map
abbrev fK:= @List.map_map
abbrev pe:= @List.getElem?_take_of_lt
abbrev qH:= @Array.getD_eq_getD_getElem?
abbrev qI:= @Array.getElem?_eq_getElem
abbrev ph:= @List.getElem?_set_self
abbrev pj:= @Array.getElem?_toList
abbrev t9:= @List.perm_ext_iff_of_nodup
abbrev j5:= @List.append_nil
abbrev j6:= @List.length_set
abbrev j7:= @List.mem_filter
abbrev kY:= @Nat.mod_eq_of_lt
abbrev pk:= @List.length_reverse
abbrev mF:= @List.append_assoc
abbrev j8:= @List.nodup_nil
abbrev kZ:= @List.nil_append
abbrev ua:= @List.getElem?_cons_succ
abbrev mG:= @Nat.le_of_not_lt
abbrev mH:= @List.getElem_mem
abbrev ub:= @List.drop_eq_nil_of_le
abbrev pz:= @List.flatMap_cons
abbrev vF:= @List.drop_eq_getElem_cons
abbrev uc:= @List.length_singleton
abbrev j9:= @Nat.le_trans
abbrev kc:= @Nat.sub_self
abbrev pA:= @List.lookup_cons
abbrev lg:= @List.map_cons
abbrev lh:= @List.map_take
abbrev lj:= @List.map_drop
abbrev qJ:= @List.getElem?_set
abbrev pC:= @List.length_nil
abbrev ud:= @List.replicate_succ
abbrev ue:= @List.length_pos_iff
abbrev zb:= @Array.getElem?_eq_some_iff
abbrev zc:= @List.nodup_iff_pairwise_ne
abbrev lq:= @List.nodup_range
abbrev qK:= @List.filter_cons
abbrev vG:= @List.length_replicate
abbrev vH:= @List.getElem?_set_ne
abbrev vI:= @List.mem_of_mem_take
abbrev uf:= @List.reverse_cons
abbrev ug:= @Int.toNat_natCast
abbrev vJ:= @List.filterMap_cons
abbrev uh:= @Bool.and_eq_true
abbrev zd:= @List.length_pos_of_mem
abbrev vK:= @Bool.false_eq_true
abbrev vL:= @List.getElem?_drop
abbrev ze:= @List.concat_eq_append
abbrev vM:= @List.flatten_cons
abbrev vN:= @Bool.eq_false_iff
abbrev vO:= @List.getElem_take
abbrev mJ:= @Nat.mod_lt
abbrev zf:= @List.getElem?_of_mem
abbrev pD:= @Nat.le_succ
abbrev vP:= @List.not_mem_nil
abbrev BO:= @List.set_eq_of_length_le
abbrev zg:= @List.map_congr_left
abbrev BP:= @List.getElem?_replicate
abbrev BQ:= @List.length_eq_zero_iff
abbrev vQ:= @List.idxOf_cons
abbrev zq99:= @List.mem_filterMap
abbrev xo:= @Array.getElem?_eq_none
abbrev nB:= @Nat.le_of_lt
abbrev nE:= @Nat.mod_self
abbrev xp:= @List.eq_nil_or_concat
abbrev xq:= @List.mem_of_mem_drop
abbrev t6:= @List.mem_flatMap
abbrev AU:= @Array.perm_iff_toList_perm
abbrev xr:= @List.getElem?_range
abbrev qi:= @Nat.zero_add
abbrev t7:= @Bool.false_and
abbrev t8:= @Bool.xor_false
namespace L2
open PySem PySem.Spec PyProof.Rows
abbrev Key:=Sum Int Str
def EF:Key→Value→Bool
 | .inl k,v=>Value.isInt k v
 | .inr x,v=>Value.isStrOf x v
def Pm(w:World):Key→Int
 | .inl k=>hashInt k
 | .inr x=>hashStr w x
theorem cp:∀{k:Key}{v:Value},EF k v=true→(∃i t,k=Sum.inl i∧v=Value.int i t)∨(∃x t,k=Sum.inr x∧v=Value.str x t)
 | .inl i,v,h=>by
  obtain ⟨t,e⟩:=Value.isInt_shape (k:=i) (v:=v) h;exact .inl ⟨i,t,rfl,e⟩
 | .inr x,v,h=>by
  obtain ⟨t,e⟩:=Value.isStrOf_shape (x:=x) (v:=v) h;exact .inr ⟨x,t,rfl,e⟩
theorem GU(a b:Int):decide ((Sum.inl a:Key)=Sum.inl b)=(a==b):=by
 by_cases e:a=b
 ·subst e;simp
 ·have h:¬(Sum.inl a:Key)=Sum.inl b:=λq=>e (Sum.inl.inj q)
  rw [decide_eq_false h];exact (beq_eq_false_iff_ne.mpr e).symm
theorem GY(a b:Str):decide ((Sum.inr a:Key)=Sum.inr b)=decide (a=b):=by
 by_cases e:a=b
 ·subst e;simp
 ·have h:¬(Sum.inr a:Key)=Sum.inr b:=λq=>e (Sum.inr.inj q)
  rw [decide_eq_false h,decide_eq_false e]
theorem GV(a:Int)(b:Str):decide ((Sum.inl a:Key)=Sum.inr b)=false:=decide_eq_false (λq=>nomatch q)
theorem GX(a:Str)(b:Int):decide ((Sum.inr a:Key)=Sum.inl b)=false:=decide_eq_false (λq=>nomatch q)
def sZ(prog:Program)(w:World):PySem.KeyKind prog w Key where
 is:=EF
 hash:=Pm w
 inj:=λv a b ha hb=>by
  rcases cp ha with ⟨i,t,rfl,rfl⟩ | ⟨x,t,rfl,rfl⟩
  ·rcases cp hb with ⟨j,u,rfl,e⟩ | ⟨y,u,rfl,e⟩
   ·injection e with e1 _;rw [e1]
   ·exact nomatch e
  ·rcases cp hb with ⟨j,u,rfl,e⟩ | ⟨y,u,rfl,e⟩
   ·exact nomatch e
   ·injection e with e1 _;rw [e1]
 byValue:=λk v h=>by
  rcases cp h with ⟨i,t,rfl,rfl⟩ | ⟨x,t,rfl,rfl⟩<;>rfl
 pyHash:=λhv h=>by
  rcases cp hv with ⟨i,t,rfl,rfl⟩ | ⟨x,t,rfl,rfl⟩
  ·exact wpAny_pyHash_int h
  ·exact wpAny_pyHash_str h
 eqBool:=λhu hv h=>by
  rcases cp hu with ⟨i,t,rfl,rfl⟩ | ⟨x,t,rfl,rfl⟩
  ·rcases cp hv with ⟨j,u,rfl,rfl⟩ | ⟨y,u,rfl,rfl⟩
   ·rw [GU] at h;exact wpAny_eqBool_int h
   ·rw [GV] at h;exact SeqAt.EqAt.int_str i t y u _ _ _ _ h
  ·rcases cp hv with ⟨j,u,rfl,rfl⟩ | ⟨y,u,rfl,rfl⟩
   ·rw [GX] at h;exact SeqAt.EqAt.str_int x t j u _ _ _ _ h
   ·rw [GY] at h;exact wpAny_eqBool_str h
 «strs»:=λk x t v h=>by
  rcases cp h with ⟨i,u,rfl,e⟩ | ⟨y,u,rfl,e⟩
  ·exact nomatch e
  ·injection e with e1 _
   subst e1;cases v<;>rfl
inductive V where
 |aZ|bl (b:Bool) |int (i:Int) |str (x:Str) |BU (b:Array UInt8) |zB (b:UInt64) |ref (a:Addr) |ty (n:String)
 deriving DecidableEq
def RelV:V→Value→Prop
 | .aZ,u=>u=Value.none
 | .bl b,u=>u=Value.bool b
 | .int i,u=>∃t,u=Value.int i t
 | .str x,u=>∃t,u=Value.str x t
 | .BU b,u=>∃t,u=Value.bytes b t
 | .zB b,u=>∃t,u=Value.float b t
 | .ref a,u=>u=Value.ref a
 | .ty n,u=>u=Value.type n
abbrev Vals:List V→List Value→Prop:=Paired RelV
theorem Vals.length{xs:List V}{us:List Value}(r:Vals xs us):xs.length=us.length:=Paired.length r
theorem Vals.get:∀{xs:List V}{us:List Value}{i:Nat}{x:V},Vals xs us→xs[i]? =some x→∃u,us[i]? =some u∧RelV x u
 |_,_,_,_, .nil,e=>by simp at e
 |_,_,0,_, .cons r _,e=>by simp at e;subst e;exact ⟨_,rfl,r⟩
 |_,_,i+1,x, .cons _ t,e=>by
  obtain ⟨u,h1,h2⟩:=Vals.get (i:=i) (x:=x) t (by simpa using e)
  exact ⟨u,by simpa using h1,h2⟩
theorem Vals.set{x:V}{u:Value}(r:RelV x u):∀{xs:List V}{us:List Value}(i:Nat),Vals xs us→Vals (xs.set i x) (us.set i u)
 |_,_,_, .nil=> .nil
 |_,_,0, .cons _ t=> .cons r t
 |_,_,i+1, .cons q t=> .cons q (Vals.set r i t)
theorem Vals.append:∀{xs ys:List V}{us ws:List Value},Vals xs us→Vals ys ws→Vals (xs++ys) (us++ws)
 |_,_,_,_, .nil,s=>s
 |_,_,_,_, .cons r t,s=> .cons r (Vals.append t s)
theorem Vals.take:∀{xs:List V}{us:List Value}(n:Nat),Vals xs us→Vals (xs.take n) (us.take n)
 |_,_,0,_=> .nil
 |_,_,_+1, .nil=> .nil
 |_,_,n+1, .cons r t=> .cons r (Vals.take n t)
theorem Vals.drop:∀{xs:List V}{us:List Value}(n:Nat),Vals xs us→Vals (xs.drop n) (us.drop n)
 |_,_,0,r=>r
 |_,_,_+1, .nil=> .nil
 |_,_,n+1, .cons _ t=>Vals.drop n t
def lY:Option V→Option Value→Prop
 |some v,some u=>RelV v u
 |none,none=>True
 |_,_=>False
def KV{κ:Type}:List (κ×V)→List (κ×Value)→Prop:=Paired λ(p:κ×V)(q:κ×Value)=>p.1=q.1∧RelV p.2 q.2
def kV:Key→V
 | .inl i=> .int i
 | .inr x=> .str x
inductive HO where
 |lst (xs:List V)
 |tup (xs:List V)
 |dK (cW:List (Key×V)) |dT (cW:List (List Key×V))
 |set (S:Int→Bool) (n:Nat)
 |ins (C dx:Addr) (fs:List (Str×V))
 |own (x:Addr)
 |xd (fs:List (Str×V))
 |met (f x:Addr)
 |rng (lo hi:Int)
 |mP (o:Obj) (u:HO)
 |y3 (ps:Array Value)
 |ext (φ:Heap→Prop)
abbrev Hp:=Addr→Option HO
def upd(H:Hp)(a:Addr)(o:HO):Hp:=λb=>if b=a then some o else H b
theorem aw{H:Hp}{a:Addr}{o:HO}:upd H a o a=some o:=by unfold upd;rw [if_pos rfl]
theorem aC{H:Hp}{a b:Addr}{o:HO}(h:b≠a):upd H a o b=H b:=by unfold upd;rw [if_neg h]
theorem aP{H:Hp}{a b:Addr}{o:HO}(h:H a=some o)(h':H b=none):a≠b:=by
 intro e;subst e;rw [h] at h';cases h'
section
variable (P:Program) (w:World)
def cu(H:Hp)(h:Heap)(a:Addr):HO→Prop
 | .lst xs=>xs.length≤sizeLine∧∃(its:List Value)(n:Nat),Vals xs its∧h.get? a=some {cls:= .type "list",data:= .seq its.toArray n}
 | .tup xs=>xs.length≤sizeLine∧∃its:List Value,Vals xs its∧IsTup h a its.toArray
 | .dK cW=>cW.length≤sizeLine∧(a==sysModules)=false∧∃vs,KV cW vs∧h.DictOf (sZ P w) a vs
 | .dT cW=>cW.length≤sizeLine∧(a==sysModules)=false∧∃xs:List (List Key×Addr×Value),
   Paired (λ(p:List Key×V)(q:List Key×Addr×Value)=>p.1=q.1∧H q.2.1=some (.tup (p.1.map kV))∧RelV p.2 q.2.2) cW xs∧
   ∃o es ep,h.get? a=some o∧o.ExactDict∧o.data= .dict es ep∧es.toList=xs.map (entryOfKey (tupleKind (sZ P w)))∧(xs.map (·.1)).Nodup
 | .set S n=>h.SetOf (intKind P w) a S n
 | .ins C dx fs=>H dx=some (.own a)∧fs.length≤1000∧dx≠a∧h.get? a=some (PySem.W.instObj C dx)∧
   ∃mA,h.Ns1 dx mA∧(∀f,lY (fs.lookup f) (mA f))∧PySem.Within mA (fs.map (·.1))
 | .own _=>∃o,h.get? a=some o
 | .xd fs=>∃mA,h.Ns1 a mA∧∀f,lY (fs.lookup f) (mA f)
 | .rng lo hi=>∃t u v,h.get? a=some {cls:= .type "range",data:= .fields #[.int lo t, .int hi u, .int 1 v]}
 | .mP o u=>h.get? a=some o∧cu H h a u
 | .y3 ps=>h.get? a=some {cls:= .none,data:= .fields ps}
 | .met f x=>h.get? a=some (PySem.W.methodObj (.ref f) (.ref x))
 | .ext φ=>φ h∧(∃o,h.get? a=some o)∧∀h1 h2:Heap,φ h1→(∀o,h1.get? a=some o→h2.get? a=some o)→φ h2
def gH(H:Hp)(h:Heap):Prop:=∀a o,H a=some o→cu P w H h a o
end
section
variable {P:Program} {w:World} {H H':Hp} {h h':Heap} {a:Addr} {o:HO}
theorem cu.lt(x:cu P w H h a o):a<h.objs.size:=by
 cases o with
 |lst xs=>obtain ⟨_,_,_,_,e⟩:=x;exact Heap.lt_size e
 |tup xs=>obtain ⟨_,_,_,p⟩:=x;exact p.lt
 |dK cW=>obtain ⟨_,_,_,_,o,_,_,e,_⟩:=x;exact Heap.lt_size e
 |dT cW=>obtain ⟨_,_,_,_,o,_,_,e,_⟩:=x;exact Heap.lt_size e
 |set S n=>obtain ⟨o,_,_,_,e,_⟩:=x;exact Heap.lt_size e
 |ins C dx fs=>obtain ⟨_,_,_,e,_⟩:=x;exact Heap.lt_size e
 |own y=>obtain ⟨_,e⟩:=x;exact Heap.lt_size e
 |xd fs=>obtain ⟨_,⟨_,_,_,e,_⟩,_⟩:=x;exact Heap.lt_size e
 |rng lo hi=>obtain ⟨_,_,_,e⟩:=x;exact Heap.lt_size e
 |mP ob u=>obtain ⟨e,_⟩:=x;exact Heap.lt_size e
 |y3 ps=>exact Heap.lt_size (show h.get? a=some _ from x)
 |met f y=>exact Heap.lt_size (show h.get? a=some _ from x)
 |ext φ=>obtain ⟨_,⟨_,e⟩,_⟩:=x;exact Heap.lt_size e
theorem Paired.Jg{α β:Type}{F G:α→β→Prop}:∀{l₁:List α}{l₂:List β},Paired F l₁ l₂→(∀a b,F a b→G a b)→Paired G l₁ l₂
 |_,_, .nil,_=> .nil
 |_,_, .cons r t,f=> .cons (f _ _ r) (Paired.Jg t f)
theorem cu.oU(x:cu P w H h a o)(k:∀b u,(b=a∨H b=some (.own a))→h.get? b=some u→h'.get? b=some u)
  (ho:∀b,H b=some (.own a)→H' b=some (.own a)) (ht:∀b xs,H b=some (.tup xs)→H' b=some (.tup xs)):cu P w H' h' a o:=by
 induction o with
 |lst xs=>obtain ⟨z,its,n,r,e⟩:=x;exact ⟨z,its,n,r,k _ _ (.inl rfl) e⟩
 |tup xs=>obtain ⟨z,its,r,ob,e,c⟩:=x;exact ⟨z,its,r,ob,k _ _ (.inl rfl) e,c⟩
 |dK cW=>obtain ⟨z,y,vs,r,ob,es,ep,e,c⟩:=x;exact ⟨z,y,vs,r,ob,es,ep,k _ _ (.inl rfl) e,c⟩
 |dT cW=>
  obtain ⟨z,y,xs,r,ob,es,ep,e,c⟩:=x;exact ⟨z,y,xs,Paired.Jg r λp q z=>⟨z.1,ht _ _ z.2.1,z.2.2⟩,ob,es,ep,k _ _ (.inl rfl) e,c⟩
 |set S n=>obtain ⟨ob,es,ep,t,e,c⟩:=x;exact ⟨ob,es,ep,t,k _ _ (.inl rfl) e,c⟩
 |ins C dx fs=>
  obtain ⟨d,z,ne,e,mA,⟨od,es,ep,e2,c⟩,r⟩:=x;exact ⟨ho _ d,z,ne,k _ _ (.inl rfl) e,mA,⟨od,es,ep,k _ _ (.inr d) e2,c⟩,r⟩
 |own y=>obtain ⟨ob,e⟩:=x;exact ⟨ob,k _ _ (.inl rfl) e⟩
 |xd fs=>obtain ⟨mA,⟨od,es,ep,e,c⟩,r⟩:=x;exact ⟨mA,⟨od,es,ep,k _ _ (.inl rfl) e,c⟩,r⟩
 |rng lo hi=>obtain ⟨t,u,v,e⟩:=x;exact ⟨t,u,v,k _ _ (.inl rfl) e⟩
 |mP ob u ih=>obtain ⟨e,q⟩:=x;exact ⟨k _ _ (.inl rfl) e,ih q⟩
 |y3 ps=>
  have e:h.get? a=some {cls:= .none,data:= .fields ps}:=x;show h'.get? a=some {cls:= .none,data:= .fields ps};exact k a _ (.inl rfl) e
 |met f y=>
  have e:h.get? a=some (PySem.W.methodObj (.ref f) (.ref y)):=x;show h'.get? a=some (PySem.W.methodObj (.ref f) (.ref y));exact k a _ (.inl rfl) e
 |ext φ=>obtain ⟨p,⟨o,e⟩,st⟩:=x;exact ⟨st _ _ p λo q=>k _ _ (.inl rfl) q,⟨o,k _ _ (.inl rfl) e⟩,st⟩
theorem gH.lt(x:gH P w H h)(e:H a=some o):a<h.objs.size:=(x a o e).lt
theorem gH.fresh(x:gH P w H h)(e:h.objs.size≤a):H a=none:=by
 cases q:H a with
 |none=>rfl
 |some u=>exact absurd (fI (x.lt q) e) (fB _)
theorem gH.kept(x:gH P w H h)(k:∀b u,h.get? b=some u→h'.get? b=some u):gH P w H h':=λa o e=>
 (x a o e).oU (λb u _ q=>k b u q) (λ_ q=>q) λ_ _ q=>q
theorem gH.laid(x:gH P w H h)(k:∀b u,h.get? b=some u→h'.get? b=some u)(hp:h.objs.size≤a)(new:cu P w (upd H a o) h' a o):gH P w (upd H a o) h':=λb u e=>by
 have hn:=x.fresh hp
 by_cases hb:b=a
 ·subst hb;rw [aw] at e;cases e;exact new
 ·rw [aC hb] at e
  exact (x b u e).oU (λc v _ q=>k c v q) (λc q=>by rw [aC (aP q hn)];exact q) λc xs q=>by rw [aC (aP q hn)];exact q
end
def Rd(H:Hp)(a:Addr)(u:HO):Prop:=H a=some u∨∃o,H a=some (.mP o u)
theorem Rd.ok{P:Program}{w:World}{H:Hp}{h:Heap}{a:Addr}{u:HO}(r:Rd H a u)(x:gH P w H h):cu P w H h a u:=by
 rcases r with r| ⟨o,r⟩
 ·exact x a u r
 ·obtain ⟨_,q⟩:=x a _ r
  exact q
def Gk:Option HO→Prop
 |some (.lst _)=>True
 |some (.dK _)=>True
 |some (.dT _)=>True
 |some (.set _ _)=>True
 |some (.ins _ _ _)=>True
 |some (.ext _)=>True
 |_=>False
section
variable {P:Program} {w:World} {H:Hp} {h h':Heap} {x e:Addr} {o':HO}
theorem gH.write(ok:gH P w H h)(mu:Gk (H x))(he:e=x∨H e=some (.own x))(k:∀b u,b≠e→h.get? b=some u→h'.get? b=some u)(Cb:∃u,h'.get? e=some u)
  (new:cu P w (upd H x o') h' x o'):gH P w (upd H x o') h':=λb u q=>by
 have Jj:∀c y,H c=some (.own y)→c≠x:=λc y r z=>by subst z;rw [r] at mu;exact mu
 have PB:∀c xs,H c=some (.tup xs)→c≠x:=λc xs r z=>by subst z;rw [r] at mu;exact mu
 by_cases hb:b=x
 ·subst hb;rw [aw] at q;cases q;exact new
 ·rw [aC hb] at q
  by_cases zJ:b=e
  ·have q':H b=some (.own x):=by
    rcases he with z|z
    ·exact absurd (zJ.trans z) hb
    ·rw [zJ];exact z
   rw [q] at q';cases q';obtain ⟨v,hv⟩:=Cb;exact ⟨v,by rw [zJ];exact hv⟩
  ·refine (ok b u q).oU (λc v hc r=>k c v ?_ r) (λc r=>by rw [aC (Jj c b r)];exact r) λc xs r=>by rw [aC (PB c xs r)];exact r
   rcases hc with rfl|hc
   ·exact zJ
   ·rintro rfl
    rcases he with z|z
    ·exact Jj c b hc z
    ·rw [hc] at z;cases z;exact hb rfl
end
structure Un (fs ex:List Addr) (H H':Hp) (h h':Heap):Prop where
 keep:∀b o,h.get? b=some o→H b=none→b∉fs→b∉ex→h'.get? b=some o
 slot:∀b o,h.get? b=some o→H b=none→b∈fs→b∉ex→∃sl,h'.get? b=some {o with slots:=sl}
 free:∀b o,h.get? b=some o→H b=none→b∉ex→H' b=none
 there:∀b o,h.get? b=some o→b∉ex→∃o',h'.get? b=some o'
 tups:∀b xs,H b=some (.tup xs)→H' b=some (.tup xs)
 frzs:∀b o u,H b=some (.mP o u)→H' b=some (.mP o u)
 tbls:∀b ps,H b=some (.y3 ps)→∃more,H' b=some (.y3 (ps++more))
section
variable {fs Tt ex XT:List Addr} {H H1 H2:Hp} {h h1 h2 h':Heap} {a x e:Addr} {o:HO}
theorem Un.any(u:Un fs ex H H1 h h1){b:Addr}{ob:Obj}(q:h.get? b=some ob)(n:H b=none)(hx:b∉ex):∃sl,h1.get? b=some {ob with slots:=sl}:=by
 by_cases hb:b∈fs
 ·exact u.slot b ob q n hb hx
 ·exact ⟨ob.slots,u.keep b ob q n hb hx⟩
theorem Un.kept(k:∀b u,h.get? b=some u→h'.get? b=some u):Un fs ex H H h h':=
 ⟨λb ob q _ _ _=>k b ob q,λb ob q _ _ _=>⟨ob.slots,k b ob q⟩,λ_ _ _ n _=>n,λb ob q _=>⟨ob,k b ob q⟩,λ_ _ q=>q,λ_ _ _ q=>q,λ_ ps q=>⟨#[],by rw [q];simp⟩⟩
theorem Un.refl:Un fs ex H H h h:=Un.kept λ_ _ q=>q
theorem Un.laid(k:∀b u,h.get? b=some u→h'.get? b=some u)(hp:h.objs.size≤a)(hn:H a=none):Un fs ex H (upd H a o) h h' where
 keep:=λb u q _ _ _=>k b u q
 slot:=λb u q _ _ _=>⟨u.slots,k b u q⟩
 free:=λb u q n _=>by rw [aC (bZ (fI (Heap.lt_size q) hp))];exact n
 there:=λb u q _=>⟨u,k b u q⟩
 tups:=λb xs q=>by rw [aC (aP q hn)];exact q
 frzs:=λb u xs q=>by rw [aC (aP q hn)];exact q
 tbls:=λb ps q=>⟨#[],by rw [aC (aP q hn),q];simp⟩
theorem Un.write(mu:Gk (H x))(he:e=x∨H e=some (.own x))(k:∀b u,b≠e→h.get? b=some u→h'.get? b=some u)(Cb:∃u,h'.get? e=some u):Un fs ex H (upd H x o) h h':=by
 have hx:∀b,H b=none→b≠x:=λb n z=>by subst z;rw [n] at mu;exact mu
 have hb:∀b,H b=none→b≠e:=λb n z=>by
  subst z
  rcases he with r|r
  ·exact hx b n r
  ·rw [n] at r;cases r
 have hm:∀b u,H b=some u→¬Gk (some u)→b≠x:=λb u q nm z=>by subst z;rw [q] at mu;exact nm mu
 refine ⟨λb u q n _ _=>k b u (hb b n) q,λb u q n _ _=>⟨u.slots,k b u (hb b n) q⟩,λb u q n _=>by rw [aC (hx b n)];exact n,λb u q _=>?_,
  λb xs q=>by rw [aC (hm b _ q λz=>z)];exact q,λb u xs q=>by rw [aC (hm b _ q λz=>z)];exact q,λb ps q=>⟨#[],by rw [aC (hm b _ q λz=>z),q];simp⟩⟩
 by_cases zJ:b=e
 ·subst zJ;exact Cb
 ·exact ⟨u,k b u zJ q⟩
end
def Ic(h:Heap)(H:Hp):List Addr:=(List.range h.objs.size).filter λa=>(H a).isSome
def oe(h:Heap)(H:Hp):Heap:=PySem.W.hideAll h (Ic h H)
theorem zN(h:Heap)(H:Hp):(oe h H).objs.size=h.objs.size:=PySem.W.hideAll_size _ _
theorem Cd{h:Heap}{H:Hp}{b:Addr}{o:Obj}(e:h.get? b=some o)(n:H b=none):(oe h H).get? b=some o:=
 PySem.W.hideAll_get _ e λhm=>by
  have q:(H b).isSome=true:=(j7.mp hm).2;rw [n] at q;simp at q
theorem EY{h:Heap}{H:Hp}{b:Addr}{o:Obj}(e:(oe h H).get? b=some o):h.get? b=some o∧H b=none:=by
 have e':h.get? b=some o:=PySem.W.of_hideAll (Ic h H) e;refine ⟨e',?_⟩;cases q:H b with
 |none=>rfl
 |some x=>
  have hm:b∈Ic h H:=j7.mpr ⟨cm.mpr (Heap.lt_size e'),by simp [q]⟩
  have z:(oe h H).get? b=none:=PySem.W.hideAll_none (Ic h H) hm;rw [z] at e;cases e
def rP(g h:Heap)(L:Addr):List (Addr×Obj):=(List.range h.objs.size).filterMap λa=>if a=L∨(g.get? a).isSome=true then none else (h.get? a).map λo=>(a,o)
theorem jF{g h:Heap}{L a:Addr}{o:Obj}(h1:a≠L)(h2:g.get? a=none)(h3:h.get? a=some o):(a,o)∈rP g h L:=
 zq99.mpr ⟨a,cm.mpr (Heap.lt_size h3),by simp [h1,h2,h3]⟩
theorem qU{g h:Heap}{L:Addr}{p:Addr×Obj}(hp:p∈rP g h L):p.1≠L∧g.get? p.1=none∧h.get? p.1=some p.2:=by
 obtain ⟨b,_,e⟩:=zq99.mp hp
 split at e
 ·cases e
 ·rename_i hn
  cases q:h.get? b with
  |none=>rw [q] at e;simp at e
  |some u=>
   rw [q] at e;simp only [Option.map_some,Option.some.injEq] at e;subst e;refine ⟨λz=>hn (.inl z),?_,q⟩;show g.get? b=none;cases r:g.get? b with
   |none=>rfl
   |some v=>exact (hn (.inr (by simp [r]))).elim
theorem Cy{g h:Heap}{L:Addr}:News g L h (rP g h L):=λp hp=>let ⟨a,b,c⟩:=qU hp;⟨c,a,b⟩
structure Mod (K:PySem.W.Frag) (mg:Str→Option Value) (base:Heap):Prop where
 kin:K.In base
 glob:base.Ns mainGlobals mg
 blt:∃mb,base.Ns builtinsNs mb∧∀x:Str,x≠"__name__"→mb x=bootBuiltins x
 nolimit:base.NoLimit
structure Cx where
 prog:Program
 w:World
 K:PySem.W.Frag
 mg:Str→Option Value
 base:Heap
 A:Around
 N:List Str
 s₀:Shared
 H₀:Hp
 env:Env
 outer:List Env
 stack:List Env
 ex:List Addr
 fn:Str→Bool
 calm:Bool
 pn:List (Addr×Obj)
 xe:Value→Shared→Prop
def sH(l:List Env):List Addr:=l.filterMap (·.frame)
abbrev Cx.fs(X:Cx):List Addr:=sH X.outer
def qM(sc:Scope)(x:Str):Prop:=sc.names.lookup x=some .local∨sc.names.lookup x=some .cell∨sc.names.lookup x=some .free
def Loc(sc:Scope)(x:Str):Prop:=sc.names.lookup x=some .local∨sc.names.lookup x=some .cell
def Look(env:Env)(h:Heap)(m:Str→Option Value)(x:Str)(u:Value):Prop:=
 (env.kindOf x=some .local∧m x=some u)∨((env.kindOf x=some .cell∨env.kindOf x=some .free)∧∃c,env.cells.lookup x=some c∧h.IsCell c (some u))
structure Cx.Ok (X:Cx):Prop where
 mod:Mod X.K X.mg X.base
 kind:X.env.scope.kind= .function
 glob:X.env.globals=mainGlobals
 blt:X.env.builtins=builtinsNs
 above:X.s₀.heap.objs.size≤X.env.locals
 inj:∀x y c,X.env.cells.lookup x=some c→X.env.cells.lookup y=some c→x=y
 has:∀x,(X.env.kindOf x=some .cell∨X.env.kindOf x=some .free)→∃c,X.env.cells.lookup x=some c
 cab:∀x c,X.fn x=true→X.env.cells.lookup x=some c→X.s₀.heap.objs.size≤c
 hd:X.calm=true→X.A.handled=none
 frames:X.A.frames=some X.stack
 stk:X.stack=X.outer∨(X.stack=X.env::X.outer∧X.env.frame=some X.env.locals)
 exf:∀b∈X.ex,b≠X.env.locals∧∀x c,X.env.cells.lookup x=some c→c≠b
 bs:∀b o,X.base.get? b=some o→X.s₀.heap.get? b=some o∧X.H₀ b=none
 bsz:X.base.objs.size≤X.s₀.heap.objs.size
 noex:∀b o,X.base.get? b=some o→b∉X.ex
 exfs:∀b∈X.ex,b∉X.fs
 funs:X.s₀.heap.FunFrames X.base X.outer
 frf:∀b∈X.fs,X.H₀ b=none
structure Inv (X:Cx) (pins:List (Addr×Obj)) (σ:List (Option V)) (H:Hp) (s:Shared):Prop where
 ok:X.Ok
 os:s.os=X.s₀.os
 bare:AllBare s.gens
 base:Un X.fs X.ex X.H₀ H X.s₀.heap s.heap
 loc:∃m,s.heap.Ns X.env.locals m∧∀(i:Nat)(x:Str)(v:V),X.N[i]? =some x→σ[i]? =some (some v)→qM X.env.scope x→∃u,RelV v u∧Look X.env s.heap m x u
 cell:∀x c,X.env.cells.lookup x=some c→∃v,s.heap.IsCell c v
 free:H X.env.locals=none
 freeC:∀x c,X.env.cells.lookup x=some c→H c=none
 pin:∀p∈X.pn++pins,s.heap.get? p.1=some p.2∧H p.1=none∧p.1≠X.env.locals∧p.1∉X.fs∧∀v,p.2.data≠ .cell v
 hok:gH X.prog X.w H s.heap
 len:σ.length=X.N.length
section
variable {X:Cx} {pins:List (Addr×Obj)} {σ:List (Option V)} {H H':Hp} {s:Shared} {h':Heap}
theorem Cx.Ok.Py(ok:X.Ok){b:Addr}{o:Obj}(e:X.base.get? b=some o):b∉X.fs:=λhb=>by
 have:=(ok.funs.mem hb).1
 rw [e] at this;cases this
theorem Inv.bs(I:Inv X pins σ H s):∀b o,X.base.get? b=some o→s.heap.get? b=some o∧H b=none:=λb o e=>
 ⟨I.base.keep b o (I.ok.bs b o e).1 (I.ok.bs b o e).2 (I.ok.Py e) (I.ok.noex b o e),I.base.free b o (I.ok.bs b o e).1 (I.ok.bs b o e).2 (I.ok.noex b o e)⟩
theorem Inv.bk(I:Inv X pins σ H s):∀b o,X.base.get? b=some o→s.heap.get? b=some o:=λb o e=>(I.bs b o e).1
theorem Inv.mod(I:Inv X pins σ H s):Mod X.K X.mg X.base:=I.ok.mod
theorem Inv.gh(I:Inv X pins σ H s):X.K.In s.heap:=I.ok.mod.kin.keeps I.bk
theorem Inv.fr(I:Inv X pins σ H s):∃m,Fr X.base X.env.locals s.heap m:=
 let ⟨m,hn,_⟩:=I.loc
 ⟨m,hn,I.bk,j9 I.ok.bsz I.ok.above⟩
theorem Inv.lt(I:Inv X pins σ H s):X.env.locals<s.heap.objs.size:=let ⟨_,hn,_⟩:=I.loc;hn.lt
theorem Inv.sz(I:Inv X pins σ H s):X.s₀.heap.objs.size≤s.heap.objs.size:=j9 I.ok.above (nB I.lt)
theorem Inv.EV(I:Inv X pins σ H s){a:Addr}(h:s.heap.objs.size≤a):a∉X.fs:=λhb=>by
 obtain ⟨_,o,ho,_⟩:=I.ok.funs.mem hb;exact absurd (fI (Heap.lt_size ho) (j9 I.sz h)) (fB _)
theorem Inv.v8(I:Inv X pins σ H s):∀x c,X.env.cells.lookup x=some c→c≠X.env.locals:=λx c e z=>by
 obtain ⟨v,o,ho,hd⟩:=I.cell x c e;obtain ⟨m,⟨o',es,ep,g6,lT,_⟩,_⟩:=I.loc;rw [z,g6] at ho;cases ho;rw [lT] at hd;cases hd
theorem Inv.funs(I:Inv X pins σ H s):s.heap.FunFrames X.base X.outer:=by
 have all:∀(l:List Env),(∀b∈sH l,b∈X.fs)→X.s₀.heap.FunFrames X.base l→s.heap.FunFrames X.base l:=by
  intro l
  induction l with
  |nil=>intro _ _;trivial
  |cons env r ih=>
   intro hs hl;obtain ⟨hk,⟨L,o,hf,hn,ho,hd⟩,hr⟩:=hl;have hL:L∈X.fs:=hs L (by unfold sH;rw [vJ,hf];exact bP)
   obtain ⟨sl,e⟩:=I.base.slot L o ho (I.ok.frf L hL) hL λz=>I.ok.exfs L z hL;exact ⟨hk,⟨L,_,hf,hn,e,hd⟩,ih (λb hb=>hs b (by unfold sH;rw [vJ,hf];exact bV _ hb)) hr⟩
 exact all X.outer (λ_ hb=>hb) I.ok.funs
theorem Inv.stack(I:Inv X pins σ H s):s.heap.FunFrames X.base X.stack:=by
 rcases I.ok.stk with e| ⟨e,hf⟩
 ·rw [e];exact I.funs
 ·rw [e]
  obtain ⟨m,hn,_⟩:=I.loc;refine .cons (by rw [I.ok.kind];decide) hf hn ?_ I.funs
  exact Heap.get?_none_of_le (j9 I.ok.bsz I.ok.above)
theorem Inv.xh(I:Inv X pins σ H s):∀b∈sH X.stack,b∈X.env.locals::X.fs:=λb hb=>by
 rcases I.ok.stk with e| ⟨e,hf⟩
 ·rw [e] at hb;exact bV _ hb
 ·rw [e] at hb
  unfold sH at hb;rw [vJ,hf] at hb;exact hb
theorem Inv.yZ(I:Inv X pins σ H s):∀b∈sH X.stack,H b=none:=λb hb=>by
 rcases bQ.mp (I.xh b hb) with e|hb
 ·rw [e];exact I.free
 ·obtain ⟨_,o,ho,_⟩:=I.ok.funs.mem hb
  exact I.base.free b o ho (I.ok.frf b hb) λz=>I.ok.exfs b z hb
theorem Inv.step{g':Array GenState}{t':Nat}{d':Drawn}{ch:List Addr}(I:Inv X pins σ H s)
  (uy:∀b∈ch,(b∈X.ex∨X.s₀.heap.objs.size≤b)∧b≠X.env.locals∧(∀x c,X.env.cells.lookup x=some c→c≠b)∧∀p∈X.pn++pins,p.1≠b)
  (keep:∀b o,b≠X.env.locals→b∉X.fs→b∉ch→s.heap.get? b=some o→H b=none→h'.get? b=some o)
  (slot:∀b o,b≠X.env.locals→b∈X.fs→b∉ch→s.heap.get? b=some o→H b=none→∃sl,h'.get? b=some {o with slots:=sl}) (free:∀b o,b∉ch→s.heap.get? b=some o→H b=none→H' b=none)
  (there:∀b o,b∉ch→s.heap.get? b=some o→∃o',h'.get? b=some o')
  (tups:∀b xs,H b=some (.tup xs)→H' b=some (.tup xs)) (frzs:∀b o u,H b=some (.mP o u)→H' b=some (.mP o u)) (tbls:∀b ps,H b=some (.y3 ps)→∃more,H' b=some (.y3 (ps++more)))
  (ns:∀m,s.heap.Ns X.env.locals m→h'.Ns X.env.locals m) (hok:gH X.prog X.w H' h') (hg:AllBare g'):
  Inv X pins σ H' {s with heap:=h',gens:=g',drawn:=d',toks:=t'}:=by
 have Pw:∀b o,X.s₀.heap.get? b=some o→b≠X.env.locals:=λb o e=>bZ (fI (Heap.lt_size e) I.ok.above)
 have Hi:∀b o,X.s₀.heap.get? b=some o→b∉X.ex→b∉ch:=λb o e hx hb=>by
  rcases (uy b hb).1 with z|z
  ·exact hx z
  ·exact absurd (fI (Heap.lt_size e) z) (fB _)
 have cellK:∀x c,X.env.cells.lookup x=some c→∀v,s.heap.IsCell c v→h'.IsCell c v:=λx c e v ⟨o,ho,hd⟩=>by
  have ES:c∉ch:=λz=>(uy c z).2.2.1 x c e rfl
  by_cases hc:c∈X.fs
  ·obtain ⟨sl,q⟩:=slot c o (I.v8 x c e) hc ES ho (I.freeC x c e)
   exact ⟨_,q,hd⟩
  ·exact ⟨o,keep c o (I.v8 x c e) hc ES ho (I.freeC x c e),hd⟩
 refine ⟨I.ok,I.os,hg,⟨λb o e n hb hx=>?_,λb o e n hb hx=>?_,λb o e n hx=>?_,λb o e hx=>?_,λb xs e=>tups b xs (I.base.tups b xs e),λb o xs e=>frzs b o xs (I.base.frzs b o xs e),λb ps e=>?_⟩,?_,λx c e=>?_,?_,λx c e=>?_,λp hp=>?_,hok,I.len⟩
 ·exact keep b o (Pw b o e) hb (Hi b o e hx) (I.base.keep b o e n hb hx) (I.base.free b o e n hx)
 ·obtain ⟨sl,e1⟩:=I.base.slot b o e n hb hx
  obtain ⟨Xd,e2⟩:=slot b _ (Pw b o e) hb (Hi b o e hx) e1 (I.base.free b o e n hx);exact ⟨Xd,e2⟩
 ·obtain ⟨o',e1⟩:=I.base.there b o e hx
  exact free b o' (Hi b o e hx) e1 (I.base.free b o e n hx)
 ·obtain ⟨o',e1⟩:=I.base.there b o e hx
  exact there b o' (Hi b o e hx) e1
 ·obtain ⟨m1,e1⟩:=I.base.tbls b ps e
  obtain ⟨m2,e2⟩:=tbls b _ e1;exact ⟨m1++m2,by rw [e2,Array.append_assoc]⟩
 ·obtain ⟨m,hn,hl⟩:=I.loc
  refine ⟨m,ns m hn,λi x v e1 e2 e3=>?_⟩;obtain ⟨u,r,l⟩:=hl i x v e1 e2 e3;refine ⟨u,r,?_⟩
  rcases l with l| ⟨k,c,e,z⟩
  ·exact .inl l
  ·exact .inr ⟨k,c,e,cellK x c e _ z⟩
 ·obtain ⟨v,z⟩:=I.cell x c e
  exact ⟨v,cellK x c e v z⟩
 ·obtain ⟨m,⟨o,_,_,ho,_⟩,_⟩:=I.loc
  exact free _ o (λz=>(uy _ z).2.1 rfl) ho I.free
 ·obtain ⟨v,o,ho,hd⟩:=I.cell x c e
  exact free c o (λz=>(uy c z).2.2.1 x c e rfl) ho (I.freeC x c e)
 ·obtain ⟨e,n,ne,nf,d⟩:=I.pin p hp
  have ES:p.1∉ch:=λz=>(uy p.1 z).2.2.2 p hp rfl;exact ⟨keep p.1 p.2 ne nf ES e n,free p.1 p.2 ES e n,ne,nf,d⟩
theorem Inv.un{t':Nat}(I:Inv X pins σ H s)(u:Un X.fs [] H H' s.heap h')(hok:gH X.prog X.w H' h'):Inv X pins σ H' {s with heap:=h',toks:=t'}:=by
 obtain ⟨m,⟨o,es,ep,ho,r⟩,_⟩:=id I.loc;obtain ⟨sl,hL⟩:=u.any ho I.free (by simp)
 exact I.step (g':=s.gens) (d':=s.drawn) (ch:= []) (λ_ z=>nomatch z) (λb o _ hb _ e n=>u.keep b o e n hb (by simp)) (λb o _ hb _ e n=>u.slot b o e n hb (by simp)) (λb o _ e n=>u.free b o e n (by simp)) (λb o _ e=>u.there b o e (by simp)) u.tups u.frzs u.tbls (λm' hm=>by
  obtain ⟨o',iK,zy,g6,r'⟩:=hm;rw [ho] at g6;cases g6;exact ⟨_,iK,zy,hL,r'⟩) hok I.bare
theorem Inv.call{g':Array GenState}{t':Nat}{d':Drawn}{ch:List Addr}(I:Inv X pins σ H s)(u:Un (sH X.stack) ch H H' s.heap h')(hok:gH X.prog X.w H' h')(hg:AllBare g')
  (uy:∀b∈ch,(b∈X.ex∨X.s₀.heap.objs.size≤b)∧b≠X.env.locals∧(∀x c,X.env.cells.lookup x=some c→c≠b)∧∀p∈X.pn++pins,p.1≠b):
  Inv X pins σ H' {s with heap:=h',gens:=g',drawn:=d',toks:=t'}:=by
 obtain ⟨m,⟨o,es,ep,ho,r⟩,_⟩:=id I.loc;obtain ⟨sl,hL⟩:=u.any ho I.free λz=>(uy _ z).2.1 rfl
 exact I.step (ch:=ch) uy (λb o hL hb hc e n=>u.keep b o e n (λz=>(bQ.mp (I.xh b z)).elim hL hb) hc) (λb o _ _ hc e n=>u.any e n hc) (λb o hc e n=>u.free b o e n hc) (λb o hc e=>u.there b o e hc) u.tups u.frzs u.tbls (λm' hm=>by
  obtain ⟨o',iK,zy,g6,r'⟩:=hm;rw [ho] at g6;cases g6;exact ⟨_,iK,zy,hL,r'⟩) hok hg
theorem Inv.turned{t':Nat}{it:Addr}(I:Inv X pins σ H s)(k:∀b o,b≠it→s.heap.get? b=some o→h'.get? b=some o)(hn:H it=none)(hL:it≠X.env.locals)
  (h1:it∈X.ex∨X.s₀.heap.objs.size≤it) (h2:∀x c,X.env.cells.lookup x=some c→c≠it) (h3:∀p∈X.pn++pins,p.1≠it):Inv X pins σ H {s with heap:=h',toks:=t'}:=by
 have Px:∀b u,H b=some u→b≠it:=λb u e z=>by rw [z,hn] at e;cases e
 refine I.step (g':=s.gens) (d':=s.drawn) (ch:= [it]) (λb hb=>?_) (λb o _ _ hc e _=>k b o (λz=>hc (by simp [z])) e) (λb o _ _ hc e _=>⟨o.slots,k b o (λz=>hc (by simp [z])) e⟩) (λ_ _ _ _ n=>n)
  (λb o hc e=>⟨o,k b o (λz=>hc (by simp [z])) e⟩) (λ_ _ e=>e) (λ_ _ _ e=>e) (λb ps e=>⟨#[],by rw [e];simp⟩) (λm hm=>?_) (λb u e=>?_) I.bare
 ·have e:b=it:=by simpa using hb
  subst e;exact ⟨h1,hL,h2,h3⟩
 ·obtain ⟨o,es,ep,ho,r⟩:=hm
  exact ⟨o,es,ep,k _ o (Ne.symm hL) ho,r⟩
 ·refine (I.hok b u e).oU (λc v hc q=>k c v ?_ q) (λ_ q=>q) λ_ _ q=>q
  rcases hc with z|z
  ·rw [z];exact Px b u e
  ·exact Px c _ z
theorem Inv.tok(I:Inv X pins σ H s)(t:Nat):Inv X pins σ H {s with toks:=t}:=I.un (h':=s.heap) (t':=t) Un.refl I.hok
theorem Inv.kept{t':Nat}(I:Inv X pins σ H s)(k:∀b u,s.heap.get? b=some u→h'.get? b=some u):Inv X pins σ H {s with heap:=h',toks:=t'}:=I.un (Un.kept k) (I.hok.kept k)
theorem Inv.laid{a:Addr}{o:HO}{t':Nat}(I:Inv X pins σ H s)(k:∀b u,s.heap.get? b=some u→h'.get? b=some u)(hp:s.heap.objs.size≤a)(new:cu X.prog X.w (upd H a o) h' a o):
  Inv X pins σ (upd H a o) {s with heap:=h',toks:=t'}:=I.un (Un.laid k hp (I.hok.fresh hp)) (I.hok.laid k hp new)
theorem Inv.write{x e:Addr}{o:HO}{t':Nat}(I:Inv X pins σ H s)(mu:Gk (H x))(he:e=x∨H e=some (.own x))(k:∀b u,b≠e→s.heap.get? b=some u→h'.get? b=some u)(Cb:∃u,h'.get? e=some u)
  (new:cu X.prog X.w (upd H x o) h' x o):Inv X pins σ (upd H x o) {s with heap:=h',toks:=t'}:=I.un (Un.write mu he k Cb) (I.hok.write mu he k Cb new)
theorem Inv.jg{wX:List (Addr×Obj)}(I:Inv X pins σ H s)(h:∀p∈wX,s.heap.get? p.1=some p.2∧H p.1=none∧p.1≠X.env.locals∧p.1∉X.fs∧∀v,p.2.data≠ .cell v):Inv X wX σ H s:=
 ⟨I.ok,I.os,I.bare,I.base,I.loc,I.cell,I.free,I.freeC,λp hp=>(cq.mp hp).elim (λz=>I.pin p (dW _ z)) (h p),I.hok,I.len⟩
theorem vh{N:List Str}(hN:N.Nodup){i j:Nat}{x:Str}(a:N[i]? =some x)(b:N[j]? =some x):i=j:=by
 obtain ⟨h1,e1⟩:=fC.mp a;obtain ⟨h2,e2⟩:=fC.mp b;exact (List.getElem_inj hN).mp (e1.trans e2.symm)
theorem store_ok2{M:Model}{A:Around}{E:Value→Shared→Prop}{i:Nat}{x:Str}{v:V}{u:Value}{Q:Unit→Shared→Prop}(I:Inv X pins σ H s)(hN:X.N.Nodup)(hi:X.N[i]? =some x)(hx:Loc X.env.scope x)(r:RelV v u)
  (h:∀s',Inv X pins (σ.set i (some v)) H s'→(∃a,Heap.SameBut a s.heap s'.heap∧(a=X.env.locals∨X.env.cells.lookup x=some a))→Q () s') (hf:X.fn x=true∨X.env.scope.names.lookup x=some .local:=by first|exact .inl rfl|exact .inr rfl|assumption):wpAny M A (storeName X.env x u) Q E s:=by
 obtain ⟨m,hn,hl⟩:=id I.loc;have Oq:(X.env.scope.kind== .class|| (X.env.scope.kind== .module&&X.env.locals !=X.env.globals))=false:=by rw [I.ok.kind];rfl
 have Jb:i<σ.length:=by rw [I.len];exact (fC.mp hi).1
 have v8:=I.v8
 have tracked:∀{a:Addr}{h':Heap},(∃o,s.heap.get? a=some o∧H a=none)→Heap.SameBut a s.heap h'→gH X.prog X.w H h':=λ {a h'} ha hs b ob e=>by
  obtain ⟨_,_,Eo⟩:=ha;refine (I.hok b ob e).oU (λc w' hc q=>(hs.2 c ?_).trans q) (λ_ q=>q) λ_ _ q=>q;rintro rfl
  rcases hc with rfl|hc
  ·rw [Eo] at e;cases e
  ·rw [Eo] at hc;cases hc
 rcases hx with hk|hk
 ·refine wpAny_storeName_local hk hn (λh' Uc hs=>?_) Oq
  obtain ⟨oL,_,_,Es,_⟩:=id hn;refine h _ ⟨I.ok,I.os,I.bare,⟨λb o e n hb hx=>?_,λb o e n hb hx=>?_,I.base.free,λb o e hx=>?_,I.base.tups,I.base.frzs,I.base.tbls⟩,⟨_,Uc,λj y v' e1 e2 e3=>?_⟩,λy c e=>?_,I.free,I.freeC,λp hp=>?_,tracked ⟨oL,Es,I.free⟩ hs,by simpa using I.len⟩ ⟨_,hs, .inl rfl⟩
  ·exact (hs.2 b (bZ (fI (Heap.lt_size e) I.ok.above))).trans (I.base.keep b o e n hb hx)
  ·obtain ⟨sl,e1⟩:=I.base.slot b o e n hb hx
   exact ⟨sl,(hs.2 b (bZ (fI (Heap.lt_size e) I.ok.above))).trans e1⟩
  ·obtain ⟨o',e1⟩:=I.base.there b o e hx
   exact ⟨o',(hs.2 b (bZ (fI (Heap.lt_size e) I.ok.above))).trans e1⟩
  ·by_cases hj:j=i
   ·subst hj
    rw [hi] at e1;cases e1;rw [ph Jb] at e2;cases e2;exact ⟨u,r, .inl ⟨hk,by simp⟩⟩
   ·rw [vH (Ne.symm hj)] at e2
    obtain ⟨u',r',q⟩:=hl j y v' e1 e2 e3;refine ⟨u',r',?_⟩
    rcases q with ⟨k,e⟩ | ⟨k,c,e,z⟩
    ·refine .inl ⟨k,?_⟩
     have:y≠x:=λe=>hj (vh hN e1 (e▸hi))
     simp [this,e]
    ·exact .inr ⟨k,c,e,z.sameBut hs (v8 y c e)⟩
  ·obtain ⟨w',z⟩:=I.cell y c e
   exact ⟨w',z.sameBut hs (v8 y c e)⟩
  ·obtain ⟨e,n,ne,nf,d⟩:=I.pin p hp
   exact ⟨(hs.2 p.1 ne).trans e,n,ne,nf,d⟩
 ·have KY:X.fn x=true:=by
   rcases hf with z|z
   ·exact z
   ·rw [z] at hk;cases hk
  obtain ⟨c,hc⟩:=I.ok.has x (.inl hk);obtain ⟨w',z⟩:=I.cell x c hc;refine wpAny_storeName_cell I.ok.kind hk hc z (λh' sL hs=>?_);obtain ⟨oc,OH,OI⟩:=id z;refine h {s with heap:=h'} ⟨I.ok,I.os,I.bare,⟨λb o e n hb hx=>?_,λb o e n hb hx=>?_,I.base.free,λb o e hx=>?_,I.base.tups,I.base.frzs,I.base.tbls⟩,⟨m,hn.sameBut hs (Ne.symm (v8 x c hc)),λj y v' e1 e2 e3=>?_⟩,λy c' e=>?_,I.free,I.freeC,λp hp=>?_,tracked ⟨oc,OH,I.freeC x c hc⟩ hs,by simpa using I.len⟩ ⟨c,hs, .inr hc⟩
  ·exact (hs.2 b (bZ (fI (Heap.lt_size e) (I.ok.cab x c KY hc)))).trans (I.base.keep b o e n hb hx)
  ·obtain ⟨sl,e1⟩:=I.base.slot b o e n hb hx
   exact ⟨sl,(hs.2 b (bZ (fI (Heap.lt_size e) (I.ok.cab x c KY hc)))).trans e1⟩
  ·obtain ⟨o',e1⟩:=I.base.there b o e hx
   exact ⟨o',(hs.2 b (bZ (fI (Heap.lt_size e) (I.ok.cab x c KY hc)))).trans e1⟩
  ·by_cases hj:j=i
   ·subst hj
    rw [hi] at e1;cases e1;rw [ph Jb] at e2;cases e2;exact ⟨u,r, .inr ⟨.inl hk,c,hc,sL⟩⟩
   ·rw [vH (Ne.symm hj)] at e2
    obtain ⟨u',r',q⟩:=hl j y v' e1 e2 e3;refine ⟨u',r',?_⟩
    rcases q with q| ⟨k,c',e,z'⟩
    ·exact .inl q
    ·refine .inr ⟨k,c',e,z'.sameBut hs ?_⟩
     rintro rfl;exact hj (vh hN e1 (I.ok.inj _ _ _ e hc▸hi))
  ·by_cases Oo:c'=c
   ·subst Oo;exact ⟨_,sL⟩
   ·obtain ⟨w2,z2⟩:=I.cell y c' e
    exact ⟨w2,z2.sameBut hs Oo⟩
  ·obtain ⟨e,n,ne,nf,d⟩:=I.pin p hp
   refine ⟨(hs.2 p.1 ?_).trans e,n,ne,nf,d⟩;intro q;rw [q,OH] at e;have q':oc=p.2:=Option.some.inj e;exact d w' (by rw [←q'];exact OI)
theorem lO{M:Model}{A:Around}{E:Value→Shared→Prop}{i:Nat}{x:Str}{v:V}{u:Value}{Q:Unit→Shared→Prop}(I:Inv X pins σ H s)(hN:X.N.Nodup)(hi:X.N[i]? =some x)(hx:Loc X.env.scope x)(r:RelV v u)
  (h:∀s',Inv X pins (σ.set i (some v)) H s'→Q () s') (hf:X.fn x=true∨X.env.scope.names.lookup x=some .local:=by first|exact .inl rfl|exact .inr rfl|assumption):wpAny M A (storeName X.env x u) Q E s:=
 store_ok2 I hN hi hx r (λs' I' _=>h s' I') hf
theorem Inv.JF{s':Shared}{ch:List Addr}(I:Inv X pins σ H s)(ho:s'.os=s.os)(u:Un (sH X.stack) ch H H' s.heap s'.heap)(hok:gH X.prog X.w H' s'.heap)(hg:AllBare s'.gens)
  (uy:∀b∈ch,(b∈X.ex∨X.s₀.heap.objs.size≤b)∧b≠X.env.locals∧(∀x c,X.env.cells.lookup x=some c→c≠b)∧∀p∈X.pn++pins,p.1≠b):Inv X pins σ H' s':=by
 obtain ⟨h',g',d',t',o'⟩:=s';have e:o'=s.os:=ho;subst e;exact I.call (g':=g') (t':=t') (d':=d') u hok hg uy
end
abbrev XK:=Value→Option Addr→Hp→Prop
abbrev St:=List (Option V)
abbrev VK:=V→Hp→Prop
abbrev TE:=St→Hp→VK→Prop
abbrev TT:=St→Hp→(Bool→Hp→Prop)→Prop
abbrev TA:=St→Hp→(List V→Hp→Prop)→Prop
structure Ends where
 nx:St→Hp→Prop
 rt:VK
 bk:St→Hp→Prop:=λ_ _=>False
 ct:St→Hp→Prop:=λ_ _=>False
abbrev TS:=Ends→St→Hp→Prop
def EP(X:Cx)(pins:List (Addr×Obj))(σ:St)(Q:VK)(u:Value)(s':Shared):Prop:=∃v H',Inv X pins σ H' s'∧RelV v u∧Q v H'
def TP(X:Cx)(pins:List (Addr×Obj))(σ:St)(Q:Bool→Hp→Prop)(b:Bool)(s':Shared):Prop:=∃H',Inv X pins σ H' s'∧Q b H'
def AP(X:Cx)(pins:List (Addr×Obj))(σ:St)(Q:List V→Hp→Prop)(us:List Value)(s':Shared):Prop:=∃vs H',Inv X pins σ H' s'∧Vals vs us∧Q vs H'
def SP(X:Cx)(pins:List (Addr×Obj))(D:Ends)(f:Flow)(s':Shared):Prop:=
 match f with
 | .next=>∃av H',Inv X pins av H' s'∧D.nx av H'
 | .brk=>∃av H',Inv X pins av H' s'∧D.bk av H'
 | .cont=>∃av H',Inv X pins av H' s'∧D.ct av H'
 | .ret u=>∃v av H',Inv X pins av H' s'∧RelV v u∧D.rt v H'
def PE(X:Cx)(e:Expr)(t:TE):Prop:=
 ∀(pins:List (Addr×Obj))(s:Shared)(σ:St)(H:Hp)(Q:VK),Inv X pins σ H s→t σ H Q→wpAny (model X.prog X.w) X.A (eval e X.env) (EP X pins σ Q) X.xe s
def PT(X:Cx)(e:Expr)(t:TT):Prop:=
 ∀(pins:List (Addr×Obj))(s:Shared)(σ:St)(H:Hp)(Q:Bool→Hp→Prop),Inv X pins σ H s→t σ H Q→wpAny (model X.prog X.w) X.A (isTrue e X.env (eval e X.env)) (TP X pins σ Q) X.xe s
def PW(X:Cx)(e:Expr)(t:TT):Prop:=
 ∀(whole:Sem Value)(pins:List (Addr×Obj))(s:Shared)(σ:St)(H:Hp)(Q:Bool→Hp→Prop),Inv X pins σ H s→t σ H Q→wpAny (model X.prog X.w) X.A (isTrue e X.env whole) (TP X pins σ Q) X.xe s
theorem PW.pt{X:Cx}{e:Expr}{t:TT}(h:PW X e t):PT X e t:=h _
def PA(X:Cx)(es:List Expr)(t:TA):Prop:=
 ∀(pos:Pos)(pins:List (Addr×Obj))(s:Shared)(σ:St)(H:Hp)(Q:List V→Hp→Prop),Inv X pins σ H s→t σ H Q→wpAny (model X.prog X.w) X.A (spliced (backTo pos (starEach es X.env))) (AP X pins σ Q) X.xe s
def PS(X:Cx)(st:Stmt)(t:TS):Prop:=
 ∀(pins:List (Addr×Obj))(s:Shared)(σ:St)(H:Hp)(D:Ends),Inv X pins σ H s→t D σ H→wpAny (model X.prog X.w) X.A (exec st X.env) (SP X pins D) X.xe s
def ko(X:Cx)(st:List Stmt)(t:TS):Prop:=
 ∀(pins:List (Addr×Obj))(s:Shared)(σ:St)(H:Hp)(D:Ends),Inv X pins σ H s→t D σ H→wpAny (model X.prog X.w) X.A (execs st X.env) (SP X pins D) X.xe s
theorem thn{α:Type}{t:Sem α}{Q Q':α→Shared→Prop}{M:Model}{A:Around}{E:Value→Shared→Prop}{s:Shared}(h:wpAny M A t Q E s)(hQ:∀a s,Q a s→Q' a s):wpAny M A t Q' E s:=wpAny_mono h hQ λ_ _ x=>x
section
variable {X:Cx}
def Jw(i:Nat):TE:=λσ H Q=>∃v,σ[i]? =some (some v)∧Q v H
def tC(v:V):TE:=λ_ H Q=>Q v H
theorem Bx{i:Nat}{x:Str}{pos:Pos}(hN:X.N[i]? =some x)(hv:qM X.env.scope x)(hd:(x==("__debug__":Str))=false:=by decide)(fm:(x==("__classdict__":Str))=false:=by decide):PE X (.Name x pos) (Jw i):=by
 intro pins s σ H Q I h;obtain ⟨v,e,h⟩:=h;obtain ⟨m,hn,hl⟩:=I.loc;obtain ⟨u,r,l⟩:=hl i x v hN e hv;have fin:EP X pins σ Q u s:=⟨v,H,I,r,h⟩
 rcases l with ⟨hk,hm⟩ | ⟨hk,c,hc,El⟩
 ·exact wpAny_Name (wpAny_loadName_local I.ok.kind hk hn hm fin) hd
 ·rcases hk with hk|hk
  ·exact wpAny_Name (wpAny_loadName_cell I.ok.kind hk hc El fin) hd
  ·exact wpAny_Name (wpAny_loadName_free I.ok.kind hk hc El fin fm) hd
theorem HB{i j pos}:PE X (.Constant (.int i) j pos) (tC (.int i)):=λ_ _ _ H _ I h=>wpAny_Constant_int ⟨.int i,H,I.tok _,⟨_,rfl⟩,h⟩
theorem LF{b j pos}:PE X (.Constant (.bool b) j pos) (tC (.bl b)):=λ_ _ _ H _ I h=>Constant_bool ⟨.bl b,H,I,rfl,h⟩
theorem HC{j pos}:PE X (.Constant .none j pos) (tC .aZ):=λ_ _ _ H _ I h=>Constant_none ⟨.aZ,H,I,rfl,h⟩
theorem HF{x j pos}:PE X (.Constant (.str x) j pos) (tC (.str x)):=λ_ _ _ H _ I h=>Calls.Constant_str ⟨.str x,H,I.tok _,⟨_,rfl⟩,h⟩
def Gl(X:Cx)(x:Str):Prop:=X.env.kindOf x=some .globalImplicit
theorem sS{E:Value→Shared→Prop}{pins:List (Addr×Obj)}{s:Shared}{σ:St}{H:Hp}{x:Str}{u:Value}{pos:Pos}{Q:Value→Shared→Prop}(I:Inv X pins σ H s)(hg:Gl X x)(hm:X.mg x=some u)(h:Q u s)
  (hd:(x==("__debug__":Str))=false:=by decide):wpAny (model X.prog X.w) X.A (eval (.Name x pos) X.env) Q E s:=
 Calls.Name_function_global I.ok.kind hg (Calls.loadGlobal_global (by rw [I.ok.glob];exact I.mod.glob.keeps I.bk) hm h) hd
theorem gI{E:Value→Shared→Prop}{pins:List (Addr×Obj)}{s:Shared}{σ:St}{H:Hp}{x:Str}{u:Value}{pos:Pos}{Q:Value→Shared→Prop}(I:Inv X pins σ H s)(hg:Gl X x)(hm:X.mg x=none)(hv:bootBuiltins x=some u)(h:Q u s)
  (hn:x≠"__name__":=by decide) (hd:(x==("__debug__":Str))=false:=by decide):wpAny (model X.prog X.w) X.A (eval (.Name x pos) X.env) Q E s:=by
 obtain ⟨mb,h1,h2⟩:=I.mod.blt;exact Calls.Name_function_global I.ok.kind hg (Calls.loadGlobal_builtin (by rw [I.ok.glob];exact I.mod.glob.keeps I.bk) hm (by rw [I.ok.blt];exact h1.keeps I.bk) ((h2 x hn).trans hv) h) hd
theorem Fb{x:Str}{v:V}{u:Value}{pos:Pos}(hg:Gl X x)(hm:X.mg x=some u)(r:RelV v u)(hd:(x==("__debug__":Str))=false:=by decide):PE X (.Name x pos) (tC v):=
 λ_ _ _ H _ I h=>sS I hg hm ⟨v,H,I,r,h⟩ hd
theorem E7{x:Str}{v:V}{u:Value}{pos:Pos}(hg:Gl X x)(hm:X.mg x=none)(hv:bootBuiltins x=some u)(r:RelV v u)(hn:x≠"__name__":=by decide)(hd:(x==("__debug__":Str))=false:=by decide):PE X (.Name x pos) (tC v):=
 λ_ _ _ H _ I h=>gI I hg hm hv ⟨v,H,I,r,h⟩ hn hd
variable {a b:Expr} {ta tb:TE} {pos:Pos}
variable {tA xi:TT} {rest:List Expr}
def Rf(t u:TT):TT:=λσ H Q=>t σ H λc H1=>if c=true then u σ H1 Q else Q false H1
def Xq(t u:TT):TT:=λσ H Q=>t σ H λc H1=>if c=true then Q true H1 else u σ H1 Q
def Ro(t:TT):TT:=λσ H Q=>t σ H λc H1=>Q (!c) H1
theorem Fv(ha:PT X a tA):PW X (.BoolOp .And [a] pos) tA:=by
 intro wh pins s σ H Q I h;refine isTrue_and (thn (ha pins s σ H Q I h) λc s1 e=>?_);cases c with
 |true=>exact isTrue_and_nil e
 |false=>exact e
theorem HJ(ha:PT X a tA):PW X (.BoolOp .Or [a] pos) tA:=by
 intro wh pins s σ H Q I h;refine isTrue_or (thn (ha pins s σ H Q I h) λc s1 e=>?_);cases c with
 |false=>exact isTrue_or_nil e
 |true=>exact e
theorem HI(ha:PT X a tA)(hb:PW X (.BoolOp .And (b::rest) pos) xi):PW X (.BoolOp .And (a::b::rest) pos) (Rf tA xi):=by
 intro wh pins s σ H Q I h;refine isTrue_and (thn (ha pins s σ H _ I h) λc s1 ⟨H1,I1,q1⟩=>?_);cases c with
 |true=>exact hb wh pins s1 σ H1 Q I1 q1
 |false=>exact ⟨H1,I1,q1⟩
theorem LL(ha:PT X a tA)(hb:PW X (.BoolOp .Or (b::rest) pos) xi):PW X (.BoolOp .Or (a::b::rest) pos) (Xq tA xi):=by
 intro wh pins s σ H Q I h;refine isTrue_or (thn (ha pins s σ H _ I h) λc s1 ⟨H1,I1,q1⟩=>?_);cases c with
 |true=>exact ⟨H1,I1,q1⟩
 |false=>exact hb wh pins s1 σ H1 Q I1 q1
theorem HH(ha:PT X a tA):PT X (.UnaryOp .Not a pos) (Ro tA):=by
 intro pins s σ H Q I h;exact isTrue_not (ha pins s σ H (λc H1=>Q (!c) H1) I h)
def L3(ta tb:TE):TE:=λσ H Q=>ta σ H λx H1=>∃c,x= .bl c∧if c=true then tb σ H1 Q else Q (.bl false) H1
def Rp(ta tb:TE):TE:=λσ H Q=>ta σ H λx H1=>∃c,x= .bl c∧if c=true then Q (.bl true) H1 else tb σ H1 Q
def L9(ta:TE):TE:=λσ H Q=>ta σ H λx H1=>∃c,x= .bl c∧Q (.bl (!c)) H1
theorem HE{op}{t:TE}(h:PE X a t):PE X (.BoolOp op [a] pos) t:=λpins s σ H Q I hw=>BoolOp_one (h pins s σ H Q I hw)
theorem Hx(ha:PE X a ta)(hb:PE X (.BoolOp .And (b::rest) pos) tb):PE X (.BoolOp .And (a::b::rest) pos) (L3 ta tb):=by
 intro pins s σ H Q I h;refine BoolOp_and (thn (ha pins s σ H _ I h) λv s1 ⟨x,H1,I1,r1,q1⟩=>?_);obtain ⟨c,rfl,q1⟩:=q1;cases r1;refine wpAny_truthy_bool ?_;cases c with
 |true=>exact hb pins s1 σ H1 Q I1 q1
 |false=>exact ⟨.bl false,H1,I1,rfl,q1⟩
theorem LH(ha:PE X a ta)(hb:PE X (.BoolOp .Or (b::rest) pos) tb):PE X (.BoolOp .Or (a::b::rest) pos) (Rp ta tb):=by
 intro pins s σ H Q I h;refine BoolOp_or (thn (ha pins s σ H _ I h) λv s1 ⟨x,H1,I1,r1,q1⟩=>?_);obtain ⟨c,rfl,q1⟩:=q1;cases r1;refine wpAny_truthy_bool ?_;cases c with
 |false=>exact hb pins s1 σ H1 Q I1 q1
 |true=>exact ⟨.bl true,H1,I1,rfl,q1⟩
theorem HD(ha:PE X a ta):PE X (.UnaryOp .Not a pos) (L9 ta):=by
 intro pins s σ H Q I h;refine UnaryOp_ (thn (ha pins s σ H _ I h) λv s1 ⟨x,H1,I1,r1,q1⟩=>?_);obtain ⟨c,rfl,q1⟩:=q1;cases r1;exact not_of (wpAny_truthy_bool ⟨.bl (!c),H1,I1,rfl,q1⟩)
end
def cc(K:PySem.W.Frag)(H:Hp)(a:Addr)(xs:List V):Prop:=
 Rd H a (.lst xs)∨
  ∃(o:Obj)(its:Array Value)(n:Nat),K.lookup a=some o∧o.cls= .type "list"∧o.dict=none∧o.data= .seq its n∧its.size≤sizeLine∧Vals xs its.toList
def fi(K:PySem.W.Frag)(H:Hp)(a:Addr)(xs:List V):Prop:=
 Rd H a (.tup xs)∨
  ∃(o:Obj)(its:Array Value)(n:Nat),K.lookup a=some o∧o.cls= .type "tuple"∧o.data= .seq its n∧its.size≤sizeLine∧Vals xs its.toList
def Ms:Value→Option V
 | .none=>some .aZ
 | .bool b=>some (.bl b)
 | .int i _=>some (.int i)
 | .str x _=>some (.str x)
 | .bytes b _=>some (.BU b)
 | .float b _=>some (.zB b)
 | .ref a=>some (.ref a)
 | .type n=>some (.ty n)
 |_=>none
theorem RelV.abs{x:V}{u:Value}(r:RelV x u):Ms u=some x:=by
 cases x with
 |aZ=>cases r;rfl
 |bl _=>cases r;rfl
 |int _=>obtain ⟨t,rfl⟩:=r;rfl
 |str _=>obtain ⟨t,rfl⟩:=r;rfl
 |BU _=>obtain ⟨t,rfl⟩:=r;rfl
 |zB _=>obtain ⟨t,rfl⟩:=r;rfl
 |ref _=>cases r;rfl
 |ty _=>cases r;rfl
theorem RelV.inj{x y:V}{u:Value}(r:RelV x u)(q:RelV y u):x=y:=Option.some.inj (r.abs.symm.trans q.abs)
theorem Vals.inj:∀{xs ys:List V}{us:List Value},Vals xs us→Vals ys us→xs=ys
 |_,_,_, .nil, .nil=>rfl
 |_,_,_, .cons r t, .cons r' t'=>by rw [r.inj r',Vals.inj t t']
section
variable {X:Cx} {pins:List (Addr×Obj)} {σ:St} {H:Hp} {s:Shared} {a:Addr} {xs ys:List V}
theorem cc.of{K:PySem.W.Frag}(h:H a=some (.lst xs)):cc K H a xs:= .inl (.inl h)
theorem fi.of{K:PySem.W.Frag}(h:H a=some (.tup xs)):fi K H a xs:= .inl (.inl h)
theorem Inv.list(I:Inv X pins σ H s)(h:cc X.K H a xs):∃its:List Value,Vals xs its∧PlainL s.heap a its.toArray∧xs.length≤sizeLine:=by
 rcases h with h| ⟨o,its,n,hk,hc,hd,hs,hz,r⟩
 ·obtain ⟨z,its,n,r,e⟩:=h.ok I.hok
  exact ⟨its,r,⟨_,n,e,rfl,rfl,rfl⟩,z⟩
 ·refine ⟨its.toList,r,⟨o,n,I.gh a o hk,hc,hd,by simpa using hs⟩,?_⟩
  have e:=r.length;simp only [gd] at e;omega
theorem Inv.tuple(I:Inv X pins σ H s)(h:fi X.K H a xs):∃its:List Value,Vals xs its∧IsTup s.heap a its.toArray∧xs.length≤sizeLine:=by
 rcases h with h| ⟨o,its,n,hk,hc,hs,hz,r⟩
 ·obtain ⟨z,its,r,p⟩:=h.ok I.hok
  exact ⟨its,r,p,z⟩
 ·refine ⟨its.toList,r,⟨o,I.gh a o hk,hc,n,by simpa using hs⟩,?_⟩
  have e:=r.length;simp only [gd] at e;omega
theorem Inv.vg(I:Inv X pins σ H s)(h:cc X.K H a xs)(h':cc X.K H a ys):xs=ys:=by
 obtain ⟨its,r,⟨o,n,e,_,_,d⟩,_⟩:=I.list h;obtain ⟨its',r',⟨o',n',e',_,_,d'⟩,_⟩:=I.list h';rw [e] at e';cases e';rw [d] at d'
 injection d' with d1 _
 have:its=its':=by simpa using congrArg Array.toList d1
 subst this;exact r.inj r'
end
abbrev Cx.mD(X:Cx)(E:Value→Shared→Prop):Cx:={X with xe:=E}
abbrev Cx.iN(X:Cx):Cx:=X.mD λ_ _=>False
theorem Cx.Ok.mD{X:Cx}(ok:X.Ok)(E:Value→Shared→Prop):(X.mD E).Ok:=
 ⟨ok.mod,ok.kind,ok.glob,ok.blt,ok.above,ok.inj,ok.has,ok.cab,ok.hd,ok.frames,ok.stk,ok.exf,ok.bs,ok.bsz,ok.noex,ok.exfs,ok.funs,ok.frf⟩
theorem Cx.Ok.iD{X:Cx}{E:Value→Shared→Prop}(ok:(X.mD E).Ok):X.Ok:=
 ⟨ok.mod,ok.kind,ok.glob,ok.blt,ok.above,ok.inj,ok.has,ok.cab,ok.hd,ok.frames,ok.stk,ok.exf,ok.bs,ok.bsz,ok.noex,ok.exfs,ok.funs,ok.frf⟩
section
variable {X:Cx} {pins:List (Addr×Obj)} {σ:St} {H:Hp} {s:Shared} {E:Value→Shared→Prop}
theorem Inv.mD(I:Inv X pins σ H s)(E:Value→Shared→Prop):Inv (X.mD E) pins σ H s:=⟨I.ok.mD E,I.os,I.bare,I.base,I.loc,I.cell,I.free,I.freeC,I.pin,I.hok,I.len⟩
theorem Inv.iD(I:Inv (X.mD E) pins σ H s):Inv X pins σ H s:=⟨I.ok.iD,I.os,I.bare,I.base,I.loc,I.cell,I.free,I.freeC,I.pin,I.hok,I.len⟩
theorem SP.iD{D:Ends}{f:Flow}{s':Shared}(h:SP (X.mD E) pins D f s'):SP X pins D f s':=by
 cases f with
 |next=>obtain ⟨av,H',I,q⟩:=h;exact ⟨av,H',I.iD,q⟩
 |brk=>obtain ⟨av,H',I,q⟩:=h;exact ⟨av,H',I.iD,q⟩
 |cont=>obtain ⟨av,H',I,q⟩:=h;exact ⟨av,H',I.iD,q⟩
 |ret u=>obtain ⟨v,av,H',I,r,q⟩:=h;exact ⟨v,av,H',I.iD,r,q⟩
theorem ko.iN{st:List Stmt}{t:TS}(h:ko X.iN st t):ko X st t:=λpins s σ H D I hw=>
 wpAny_mono (h pins s σ H D (I.mD _) hw) (λ_ _ q=>q.iD) λ_ _ z=>False.elim z
end
section
variable {X:Cx} {st:Stmt} {rest:List Stmt} {t u:TS} {e:Expr} {te:TE} {pos:Pos}
def L8:TS:=λD σ H=>D.nx σ H
def Rr(t u:TS):TS:=λD σ H=>t {D with nx:=u D} σ H
theorem Fp:ko X [] L8:=λ_ _ σ H _ I h=>wpAny_execs_nil ⟨σ,H,I,h⟩
theorem jj(h1:PS X st t)(h2:ko X rest u):ko X (st::rest) (Rr t u):=by
 intro pins s σ H D I h;refine wpAny_execs_cons (thn (h1 pins s σ H {D with nx:=u D} I h) λf s1 q=>?_)
 cases f with
 |next=>
  obtain ⟨av,H',I',q⟩:=q;exact h2 pins s1 av H' D I' q
 |ret v=>exact q
 |brk=>exact q
 |cont=>exact q
theorem yJ(h1:PS X st t):ko X [st] t:=by
 intro pins s σ H D I h;refine wpAny_execs_cons (thn (h1 pins s σ H D I h) λf s1 q=>?_);cases f with
 |next=>exact wpAny_execs_nil q
 |ret v=>exact q
 |brk=>exact q
 |cont=>exact q
def HZ:TS:=λD σ H=>D.bk σ H
theorem CI:PS X (.Break pos) HZ:=λ_ _ σ H _ I h=>wpAny_Break ⟨σ,H,I,h⟩
theorem Inv.quiet{pins:List (Addr×Obj)}{σ:St}{H:Hp}{s:Shared}(I:Inv X pins σ H s):interactive X.env=false:=by simp [interactive,I.ok.kind]
def L6(te:TE):TS:=λD σ H=>te σ H λ_ H1=>D.nx σ H1
theorem oJ(he:PE X e te)(hs:swapsWith e none pos.line X.env=pure false:=by rfl):PS X (.Expr e pos) (L6 te):=by
 intro pins s σ H D I h;exact wpAny_Expr_any (thn (he pins s σ H _ I h) λv s1 ⟨x,H1,I1,r1,q1⟩=>⟨σ,H1,I1,q1⟩) I.quiet hs
def Rq(te:TE):TS:=λD σ H=>te σ H D.rt
theorem wZ(he:PE X e te):PS X (.Return (some e) pos) (Rq te):=by
 intro pins s σ H D I h;exact wpAny_Return_some (thn (he pins s σ H _ I h) λv s1 ⟨x,H1,I1,r1,q1⟩=>⟨x,σ,H1,I1,r1,q1⟩)
def Rl(c:TT)(t u:TS):TS:=λD σ H=>c σ H λb H1=>if b=true then t D σ H1 else u D σ H1
theorem LK{c:Expr}{a b:List Stmt}{tc:TT}(hc:PT X c tc)(ha:ko X a t)(hb:ko X b u):PS X (.If c a b pos) (Rl tc t u):=by
 intro pins s σ H D I h;refine wpAny_If (thn (hc pins s σ H _ I h) λd s1 ⟨H1,I1,q1⟩=>?_);cases d with
 |true=>exact ha pins s1 σ H1 D I1 q1
 |false=>exact hb pins s1 σ H1 D I1 q1
def Ia:TS:=λ_ _ _=>False
theorem CJ:PS X st Ia:=λ_ _ _ _ _ _ h=>h.elim
end
abbrev TG:=V→St→Hp→(St→Hp→Prop)→Prop
abbrev uo:=List V→St→Hp→(St→Hp→Prop)→Prop
def PG(X:Cx)(target:Expr)(t:TG):Prop:=
 ∀(pins:List (Addr×Obj))(s:Shared)(σ:St)(H:Hp)(v:V)(u:Value)(Q:St→Hp→Prop),Inv X pins σ H s→RelV v u→t v σ H Q→
  wpAny (model X.prog X.w) X.A (assign target X.env u) (λ_ s'=>∃av H',Inv X pins av H' s'∧Q av H') X.xe s
def vU(X:Cx)(ts:List Expr)(t:uo):Prop:=
 ∀(pins:List (Addr×Obj))(s:Shared)(σ:St)(H:Hp)(vs:List V)(us:List Value)(Q:St→Hp→Prop),Inv X pins σ H s→Vals vs us→t vs σ H Q→
  wpAny (model X.prog X.w) X.A (assignInOrder ((assignEach ts X.env).map (·.2)) us) (λ_ s'=>∃av H',Inv X pins av H' s'∧Q av H') X.xe s
abbrev Df:=V→V→V→Hp→(Hp→Prop)→Prop
def Io(X:Cx)(t:Df):Prop:=
 ∀(pins:List (Addr×Obj))(s:Shared)(σ:St)(H:Hp)(o i v:V)(ov iv u:Value)(Q:Hp→Prop),Inv X pins σ H s→RelV o ov→RelV i iv→RelV v u→t o i v H Q→
  wpAny (model X.prog X.w) X.A (setItem ov iv u) (λ_ s'=>∃H',Inv X pins σ H' s'∧Q H') X.xe s
section
variable {X:Cx} {pos:Pos}
def Ee(i:Nat):TG:=λv σ H Q=>Q (σ.set i (some v)) H
theorem yF{i:Nat}{x:Str}(hN:X.N.Nodup)(hi:X.N[i]? =some x)(hx:Loc X.env.scope x)(hf:X.fn x=true∨X.env.scope.names.lookup x=some .local:=by first|exact .inl rfl|exact .inr rfl|assumption):PG X (.Name x pos) (Ee i):=by
 intro pins s σ H v u Q I r h;exact wpAny_assign_Name (lO I hN hi hx r (λs' I'=>⟨_,H,I',h⟩) hf)
def N8:uo:=λvs σ H Q=>vs= []∧Q σ H
def Kt(t:TG)(u:uo):uo:=λvs σ H Q=>∃v r,vs=v::r∧t v σ H λav H'=>u r av H' Q
theorem yG:vU X [] N8:=by
 intro pins s σ H vs us Q I r h;obtain ⟨e,h⟩:=h;subst e;cases r;exact assignInOrder_nil ⟨σ,H,I,h⟩
theorem vv{e:Expr}{es:List Expr}{t:TG}{u:uo}(h1:PG X e t)(h2:vU X es u)
  (hs:(assignEach (e::es) X.env).map (·.2)=assign e X.env::(assignEach es X.env).map (·.2):=by rfl):vU X (e::es) (Kt t u):=by
 intro pins s σ H vs us Q I r h;obtain ⟨v,vr,e1,h⟩:=h;subst e1;cases r with
 |cons r rr=>
  rw [hs];refine assignInOrder_cons (thn (h1 pins s σ H _ _ _ I r h) λ_ s1 ⟨AW,H1,I1,q1⟩=>?_);exact h2 pins s1 AW H1 _ _ Q I1 rr q1
def Oa(K:PySem.W.Frag)(n:Nat)(t:uo):TG:=λv σ H Q=>∃a xs,v= .ref a∧fi K H a xs∧xs.length=n∧t xs σ H Q
theorem Bz{es:List Expr}{k:Nat}{t:uo}{n:Nat}(hc:X.calm=true)(h:vU X es t)
  (hn:(assignEach es X.env).length=n:=by rfl) (i7:(assignEach es X.env).findIdx? (·.1)=none:=by rfl):PG X (.Tuple es k pos) (Oa X.K n t):=by
 intro pins s σ H v u Q I r hw;obtain ⟨a,xs,e1,hq,hl,hw⟩:=hw;subst e1;cases r;obtain ⟨its,rv,ht,hz⟩:=I.tuple hq;refine assign_Tuple_tuple (I.ok.hd hc) ht (by simp [hn,←hl,rv.length]) i7 λh' hx=>?_
 have I1:Inv X pins σ H {s with heap:=h'}:=I.kept (t':=s.toks) λb o e=>hx b o (bZ (Heap.lt_size e)) e
 exact h pins _ σ H xs _ Q I1 (by simpa using rv) hw
def N9(to ti:TE)(t:Df):TG:=λv σ H Q=>to σ H λo H1=>ti σ H1 λi H2=>t o i v H2 λH3=>Q σ H3
theorem By{o i:Expr}{to ti:TE}{t:Df}(ho:PE X o to)(hi:PE X i ti)(hs:Io X t)
  (ha:∀v,assign (.Subscript o i pos) X.env v=(do
   let ov ←holding [v] (eval o X.env)
   let iv ←holding [v,ov] (eval i X.env)
   standAt pos
   holding [v,ov,iv] (setItem ov iv v)
   release [v,ov,iv] []):=by intro _;rfl):PG X (.Subscript o i pos) (N9 to ti t):=by
 intro pins s σ H v u Q I r h;rw [ha];refine wpAny_bind (wpAny_holding (thn (ho pins s σ H _ I h) λov s1 ⟨x,H1,I1,r1,q1⟩=>?_));refine wpAny_bind (wpAny_holding (thn (hi pins s1 σ H1 _ I1 q1) λiv s2 ⟨y,H2,I2,r2,q2⟩=>?_));refine wpAny_bind (wpAny_standAt (wpAny_bind (wpAny_holding (thn (hs pins s2 σ H2 x y v ov iv u _ I2 r1 r2 r q2) λ_ s3 ⟨H3,I3,q3⟩=>?_))));exact wpAny_release ⟨σ,H3,I3,q3⟩
def Jt(te:TE)(g:TG):TS:=λD σ H=>te σ H λx H1=>g x σ H1 D.nx
theorem wY{tg e:Expr}{te:TE}{g:TG}(he:PE X e te)(hg:PG X tg g)(hs:swapsWithSole [tg] e pos.line X.env=pure false:=by rfl)(hw:swappedStores [tg] e X.env=pure none:=by rfl)
  (h1:(assignEach [tg] X.env).map (·.2)= [assign tg X.env]:=by rfl):PS X (.Assign [tg] e pos) (Jt te g):=by
 intro pins s σ H D I h;refine wpAny_Assign_stores (thn (he pins s σ H _ I h) λv s1 ⟨x,H1,I1,r1,q1⟩=>?_) hs hw;rw [h1];exact thn (hg pins s1 σ H1 x v _ I1 r1 q1) λ_ s2 q=>q
theorem oK{i:Nat}{x:Str}{e:Expr}{te:TE}{pos':Pos}(hN:X.N.Nodup)(hi:X.N[i]? =some x)(hx:Loc X.env.scope x)(he:PE X e te)(hs:swapsWith e (some (.Name x pos')) pos.line X.env=pure false:=by rfl)(hf:X.fn x=true∨X.env.scope.names.lookup x=some .local:=by first|exact .inl rfl|exact .inr rfl|assumption):
  PS X (.Assign [.Name x pos'] e pos) (Jt te (Ee i)):=by
 intro pins s σ H D I h;refine wpAny_Assign_Name (thn (he pins s σ H _ I h) λv s1 ⟨y,H1,I1,r1,q1⟩=>?_) hs;exact lO I1 hN hi hx r1 (λs2 I2=>⟨_,H1,I2,q1⟩) hf
end
section
variable {X:Cx} {pos:Pos}
def Ib(c:TT)(tb:TS):TS:=λD σ H=>∃W:Nat→St→Hp→Prop,(∃m,W m σ H)∧∀m σ H,W m σ H→
 c σ H λb H1=>if b=true then ∃N:St→Hp→Prop,(∀av H',N av H'→∃m',m'<m∧W m' av H')∧tb {D with nx:=N,ct:=N,bk:=D.nx} σ H1 else D.nx σ H1
theorem CK{c:Expr}{body:List Stmt}{tc:TT}{tb:TS}(hp:PassesOwn (model X.prog X.w) X.A X.env X.xe)(hc:PT X c tc)(hb:ko X body tb):PS X (.While c body [] pos) (Ib tc tb):=by
 intro pins s σ H D I h;obtain ⟨W,⟨m0,w0⟩,turn⟩:=h;refine wpAny_While (codeAny_whileLoop (λn s'=>∃av H',Inv X pins av H' s'∧W n av H') ?_ m0 ⟨σ,H,I,w0⟩);rintro n s1 ⟨AW,H1,I1,w1⟩;refine wpAny_passesOwn hp (thn (hc pins s1 AW H1 _ I1 (turn n AW H1 w1)) λb s2 ⟨H2,I2,q2⟩=>?_);cases b with
 |true=>
  obtain ⟨N,hN,q2⟩:=q2;rw [if_pos rfl];refine wpAny_passesOwn hp (thn (hb pins s2 AW H2 _ I2 q2) λf s3 q3=>?_);cases f with
  |next=>
   obtain ⟨rg,H3,I3,n3⟩:=q3;obtain ⟨m',hm,w3⟩:=hN rg H3 n3;exact ⟨m',hm,rg,H3,I3,w3⟩
  |cont=>
   obtain ⟨rg,H3,I3,n3⟩:=q3;obtain ⟨m',hm,w3⟩:=hN rg H3 n3;exact ⟨m',hm,rg,H3,I3,w3⟩
  |brk=>exact q3
  |ret v=>exact q3
 |false=>
  rw [if_neg bY];exact wpAny_execs_nil ⟨AW,H2,I2,q2⟩
end
structure It where
 go:Nat→Hp→Prop
 yld:Nat→Hp→V→Hp→Prop
 stop:Nat→Hp→Prop
def eF(X:Cx)(pins:List (Addr×Obj))(H:Hp)(b:Addr):Prop:=
 H b=none∧b≠X.env.locals∧b∉X.fs∧(b∈X.ex∨X.s₀.heap.objs.size≤b)∧(∀x c,X.env.cells.lookup x=some c→c≠b)∧∀p∈X.pn++pins,p.1≠b
theorem Inv.Ec{X:Cx}{pins:List (Addr×Obj)}{σ:St}{H H':Hp}{s:Shared}{b:Addr}(I:Inv X pins σ H s)(hb:s.heap.objs.size≤b)(hn:H' b=none):eF X pins H' b:=by
 refine ⟨hn,Nat.ne_of_gt (fI I.lt hb),I.EV hb, .inr (j9 I.sz hb),λx c e z=>?_,λp hp z=>?_⟩
 ·obtain ⟨v,q⟩:=I.cell x c e
  exact absurd (fI q.lt (by rw [z];exact hb)) (fB _)
 ·exact absurd (fI (Heap.lt_size (I.pin p hp).1) (by rw [z];exact hb)) (fB _)
structure Turn (P:Program) (w:World) (K:PySem.W.Frag) (tg:Expr) (J:It) (fp:List Addr) (it:Addr) (tn:Nat→Heap→Prop):Prop where
 mem:it∈fp
 obj:∀i h,tn i h→∀b∈fp,∃o,h.get? b=some o∧∀v,o.data≠ .cell v
 keep:∀i h h',tn i h→(∀b∈fp,∀o,h.get? b=some o→h'.get? b=some o)→tn i h'
 item:∀(X:Cx),X.prog=P→X.w=w→X.K=K→X.calm=true→∀(i:Nat)(pins:List (Addr×Obj))(s:Shared)(σ:St)(H:Hp)(E:Value→Shared→Prop),Inv X pins σ H s→(∀b∈fp,eF X pins H b)→tn i s.heap→J.go i H→
  wpAny (model P w) X.A (pyNext (.ref it)) (λr s1=>∃u,r=some u∧
   wpAny (model P w) X.A (letOwnedTupleGo tg (.ref it) u) (λ_ s2=>∃x H',Inv X pins σ H' s2∧RelV x u∧J.yld i H x H'∧tn (i+1) s2.heap∧∀b∈fp,H' b=none) E s1) E s
 done:∀(X:Cx),X.prog=P→X.w=w→X.K=K→X.calm=true→∀(i:Nat)(pins:List (Addr×Obj))(s:Shared)(σ:St)(H:Hp)(E:Value→Shared→Prop),Inv X pins σ H s→(∀b∈fp,eF X pins H b)→tn i s.heap→J.stop i H→
  wpAny (model P w) X.A (pyNext (.ref it)) (λr s1=>r=none∧Inv X pins σ H s1) E s
 self:∀(A:Around)(i:Nat)(s:Shared)(Q:Value→Shared→Prop)(E:Value→Shared→Prop),tn i s.heap→Q (.ref it) s→wpAny (model P w) A (pyIter (.ref it)) Q E s
abbrev TI:=St→Hp→(It→Hp→Prop)→Prop
def Mp(X:Cx)(pins:List (Addr×Obj))(σ:St)(tg:Expr)(R:It→Hp→Prop)(Ck:Value)(s2:Shared):Prop:=
 ∃(it:Addr)(fp:List Addr)(tn:Nat→Heap→Prop)(J:It)(H':Hp),Ck= .ref it∧Inv X pins σ H' s2∧Turn X.prog X.w X.K tg J fp it tn∧tn 0 s2.heap∧(∀b∈fp,eF X pins H' b)∧R J H'
def PI(X:Cx)(tg iter:Expr)(wi:TI):Prop:=
 ∀(pins:List (Addr×Obj))(s:Shared)(σ:St)(H:Hp)(R:It→Hp→Prop),Inv X pins σ H s→wi σ H R→
  wpAny (model X.prog X.w) X.A (eval iter X.env) (λv s1=>wpAny (model X.prog X.w) X.A (pyIter v) (Mp X pins σ tg R) X.xe s1) X.xe s
theorem Eh{M:Model}{A:Around}{E:Value→Shared→Prop}{s:Shared}{tg:Expr}{it:Addr}{u:Value}{o:Obj}{n:String}{vs:Array Value}{Q:Unit→Shared→Prop}(ho:s.heap.get? it=some o)(hc:o.cls= .type n)(hd:o.data= .fields vs)
  (hn: ["enumerate","zip","dict_itemiterator","dict_reverseitemiterator","odict_iterator","itertools.zip_longest","itertools.pairwise"].contains n=false) (hQ:Q () s):wpAny M A (letOwnedTupleGo tg (.ref it) u) Q E s:=by
 unfold letOwnedTupleGo
 cases tg<;>first
  |exact wpAny_pure hQ
  | (cases u<;>first
    |exact wpAny_pure hQ
    | (refine wpAny_bind (wpAny_load ho ?_)
       rw [hc,hd];show wpAny M A (if (["enumerate","zip","dict_itemiterator","dict_reverseitemiterator","odict_iterator","itertools.zip_longest","itertools.pairwise"].contains n&&vs[0]? ==some (rawInt _))=true then _ else _) Q E s;rw [if_neg (by intro h;rw [hn,t7] at h;cases h)]
       exact wpAny_pure hQ))
def JC(K:PySem.W.Frag)(a:Addr):It:=
 ⟨λi H=>∃xs x,cc K H a xs∧xs[i]? =some x,λi H x H'=>H'=H∧∀xs,cc K H a xs→xs[i]? =some x,λi H=>∃xs,cc K H a xs∧xs.length≤i⟩
def C8(lo:Int)(n:Nat):It:=⟨λi _=>i<n,λi H x H'=>H'=H∧x= .int (lo+i),λi _=>n≤i⟩
theorem AR{P:Program}{w:World}{K:PySem.W.Frag}{tg:Expr}(a it:Addr):Turn P w K tg (JC K a) [it] it (λi h=>h.IsListIter it a i) where
 mem:=by simp
 obj:=λi h st b hb=>by
  have e:b=it:=by simpa using hb
  subst e;obtain ⟨o,e,c,d⟩:=st;exact ⟨o,e,λv z=>by rw [d] at z;cases z⟩
 keep:=λi h h' st k=>st.at λo e=>k it (by simp) o e
 item:=by
  intro X hP hw hK hc i pins s σ H E I hf st hg;subst hP hw hK;obtain ⟨xs,x,hq,hx⟩:=hg;obtain ⟨its,rv,p,hz⟩:=I.list hq;obtain ⟨u,hu,ru⟩:=rv.get hx;obtain ⟨f0,f1,f2,f3,f4,f5⟩:=hf it (by simp)
  refine wpAny_pyNext_list_item st p.isList (x:=u) (by simpa using hu) λh' FW sb=>?_
  have I1:Inv X pins σ H {s with heap:=h'}:=I.turned (t':=s.toks) (λb o hb e=>(sb.2 b hb).trans e) f0 f1 f3 f4 f5
  obtain ⟨o,e,c,d⟩:=id FW;exact ⟨u,rfl,Eh (s:={s with heap:=h'}) e c d (by decide) ⟨x,H,I1,ru,⟨rfl,λys hy=>by rw [I.vg hy hq];exact hx⟩,FW,λb hb=>(hf b hb).1⟩⟩
 done:=by
  intro X hP hw hK hc i pins s σ H E I hf st hg;subst hP hw hK;obtain ⟨xs,hq,hx⟩:=hg;obtain ⟨its,rv,p,hz⟩:=I.list hq;obtain ⟨f0,f1,f2,f3,f4,f5⟩:=hf it (by simp)
  have hl:=rv.length;exact wpAny_pyNext_list_end (I.ok.hd hc) st p.isList (by simp;omega) λh' eb=>⟨rfl,I.turned (t':=s.toks) (λb o hb e=>eb b o hb e) f0 f1 f3 f4 f5⟩
 self:=λ_ _ _ _ _ st h=>wpAny_pyIter_listiter st h
theorem y8{P:Program}{w:World}{K:PySem.W.Frag}{tg:Expr}(it:Addr)(lo:Int)(n:Nat):Turn P w K tg (C8 lo n) [it] it (λi h=>IsRangeIter h it (lo+(i:Nat)*1) ((n:Int)-(i:Nat)) 1) where
 mem:=by simp
 obj:=λi h st b hb=>by
  have e:b=it:=by simpa using hb
  subst e
  exact ⟨_,st,λv z=>by
   have z':Data.fields _=Data.cell v:=z;cases z'⟩
 keep:=λi h h' st k=>k it (by simp) _ st
 item:=by
  intro X hP hw hK hc i pins s σ H E I hf st hg;subst hP hw hK;obtain ⟨f0,f1,f2,f3,f4,f5⟩:=hf it (by simp)
  have W:=Walks.range (prog:=X.prog) (w:=X.w) (I.ok.hd hc) it lo 1 n;refine W.item i s _ _ hg st λv h' tk hv FW kk=>?_;obtain ⟨t,rfl⟩:=hv;have I1:Inv X pins σ H {s with heap:=h',toks:=tk}:=I.turned (λb o hb e=>kk b o (by simpa using hb) e) f0 f1 f3 f4 f5
  refine ⟨_,rfl,Eh (s:={s with heap:=h',toks:=tk}) (n:="range_iterator") FW rfl rfl (by decide) ⟨.int (lo+i),H,I1,⟨t,?_⟩,⟨rfl,rfl⟩,FW,λb hb=>(hf b hb).1⟩⟩
  rw [Int.mul_one]
 done:=by
  intro X hP hw hK hc i pins s σ H E I hf st hg;subst hP hw hK;obtain ⟨f0,f1,f2,f3,f4,f5⟩:=hf it (by simp)
  exact wpAny_pyNext_range_end (I.ok.hd hc) st (by have:n≤i:=hg;omega) λh' eb=>⟨rfl,I.turned (t':=s.toks) (λb o hb e=>eb b o hb e) f0 f1 f3 f4 f5⟩
 self:=λ_ _ _ _ _ st h=>wpAny_pyIter_rangeiter st h
section
variable {X:Cx} {tg:Expr}
def Li(K:PySem.W.Frag)(tl:TE):TI:=λσ H R=>tl σ H λx H1=>∃a,x= .ref a∧(∃xs,cc K H1 a xs)∧R (JC K a) H1
theorem Fj{l:Expr}{tl:TE}(hl:PE X l tl):PI X tg l (Li X.K tl):=by
 intro pins s σ H R I h;refine thn (hl pins s σ H _ I h) λv s1 ⟨x,H1,I1,r1,q1⟩=>?_;obtain ⟨a,e,⟨xs,hq⟩,q⟩:=q1;subst e;cases r1;obtain ⟨its,rv,p,hz⟩:=I1.list hq;refine wpAny_pyIter_list p.isList ?_;refine ⟨s1.heap.objs.size,[s1.heap.objs.size],_,_,H1,rfl,I1.kept (t':=s1.toks) λb o e=>Heap.get?_push_of_some _ e,AR a _,⟨_,Heap.get?_push_size _ rfl,rfl,rfl⟩,λb hb=>?_,q⟩;have e:b=s1.heap.objs.size:=by simpa using hb
 subst e;exact I1.Ec (bh _) (I1.hok.fresh (bh _))
theorem vB{pins:List (Addr×Obj)}{σ:St}{H:Hp}{s:Shared}{R:It→Hp→Prop}{E:Value→Shared→Prop}{lo hi:Int}{t u v:Tok}{tk:Nat}(I:Inv X pins σ H s)(h1: -(2^62)≤lo)(h2:lo<2^62)(h3: -(2^62)≤hi)(h4:hi<2^62)
  (q:R (C8 lo (hi-lo).toNat) H):wpAny (model X.prog X.w) X.A (pyIter (.ref s.heap.objs.size)) (Mp X pins σ tg R) E {s with heap:=s.heap.push {cls:= .type "range",data:= .fields #[.int lo t, .int hi u, .int 1 v]},toks:=tk}:=by
 refine wpAny_pyIter_range (IsRange.new ..) (small_one h1 h2 h3 h4) ?_;have I1:Inv X pins σ H {s with heap:=s.heap.push {cls:= .type "range",data:= .fields #[.int lo t, .int hi u, .int 1 v]},toks:=tk}:=I.kept λb o e=>Heap.get?_push_of_some _ e
 refine ⟨(s.heap.push {cls:= .type "range",data:= .fields #[.int lo t, .int hi u, .int 1 v]}).objs.size,[(s.heap.push {cls:= .type "range",data:= .fields #[.int lo t, .int hi u, .int 1 v]}).objs.size],_,_,H,rfl,
  I1.kept (t':=tk) λb o e=>Heap.get?_push_of_some _ e,y8 _ lo (hi-lo).toNat,?_,λb hb=>?_,q⟩
 ·have e1:lo+((0:Nat):Int)*1=lo:=by simp
  have e2:(((hi-lo).toNat:Nat):Int)-((0:Nat):Int)=Builtin.Range.rangeSize lo hi 1:=by rw [rangeSize_one];split<;>omega
  show IsRangeIter _ _ (lo+((0:Nat):Int)*1) ((((hi-lo).toNat:Nat):Int)-((0:Nat):Int)) 1;rw [e1,e2];exact Heap.get?_push_size _ rfl
 ·have e:b=(s.heap.push {cls:= .type "range",data:= .fields #[.int lo t, .int hi u, .int 1 v]}).objs.size:=by simpa using hb
  subst e;exact I1.Ec (bh _) (I1.hok.fresh (bh _))
def Lj(ta:TA):TI:=λσ H R=>ta σ H λvs H1=>∃j:Int,vs= [.int j]∧-(2^62)≤j∧j<2^62∧R (C8 0 j.toNat) H1
def Lk(ta:TA):TI:=λσ H R=>ta σ H λvs H1=>∃i j:Int,vs= [.int i, .int j]∧(-(2^62)≤i∧i<2^62∧-(2^62)≤j∧j<2^62)∧R (C8 i (j-i).toNat) H1
theorem tI{a:Expr}{ta:TA}{p pos:Pos}(hg:Gl X "range")(hm:X.mg "range"=none)(ha:PA X [a] ta)(hs:starEach [a] X.env= [(false,eval a X.env)]:=by rfl):PI X tg (.Call (.Name "range" p) [a] [] pos) (Lj ta):=by
 intro pins s σ H R I h;refine Call_ (gI I hg hm boot_range (PyProof.Rows.callWith_type1 (thn (ha pos pins s σ H _ I h) λus s1 ⟨vs,H1,I1,r1,q1⟩=>?_) hs rfl));obtain ⟨j,e,q1,q2,q⟩:=q1;subst e;cases r1 with
 |cons r rr=>
  cases rr;obtain ⟨t,rfl⟩:=r;exact call_range_1 (vB I1 (by omega) (by omega) q1 q2 (by simpa using q))
theorem Au{a b:Expr}{ta:TA}{p pos:Pos}(hg:Gl X "range")(hm:X.mg "range"=none)(ha:PA X [a,b] ta)(hs:starEach [a,b] X.env= [(false,eval a X.env),(false,eval b X.env)]:=by rfl)(jA:starEach [b] X.env= [(false,eval b X.env)]:=by rfl):
  PI X tg (.Call (.Name "range" p) [a,b] [] pos) (Lk ta):=by
 intro pins s σ H R I h;refine Call_ (gI I hg hm boot_range (PyProof.Rows.callWith_type1 (thn (ha pos pins s σ H _ I h) λus s1 ⟨vs,H1,I1,r1,q1⟩=>?_) (by rw [hs,jA]) (by rw [jA];rfl)))
 obtain ⟨i,j,e,⟨q1,q2,q3,q4⟩,q⟩:=q1;subst e;cases r1 with
 |cons r rr=>
  cases rr with
  |cons r' rr=>
   cases rr;obtain ⟨t,rfl⟩:=r;obtain ⟨t',rfl⟩:=r';exact call_range_2 (vB I1 q1 q2 q3 q4 q)
def Rk(wi:TI)(g:TG)(tb:TS):TS:=λD σ H=>wi σ H λJ H1=>∃W:Nat→Nat→St→Hp→Prop,(∃m,W 0 m σ H1)∧∀i m σ H,W i m σ H→
 (J.stop i H∧D.nx σ H)∨(J.go i H∧∃N:St→Hp→Prop,(∀av H',N av H'→∃m',m'<m∧W (i+1) m' av H')∧∀x H',J.yld i H x H'→g x σ H' λdE H2=>tb {D with nx:=N,ct:=N,bk:=D.nx} dE H2)
def jJ(fp:List Addr)(h:Heap):List (Addr×Obj):=fp.filterMap λb=>(h.get? b).map λo=>(b,o)
theorem cX{fp:List Addr}{h:Heap}{b:Addr}{o:Obj}(hb:b∈fp)(e:h.get? b=some o):(b,o)∈jJ fp h:=zq99.mpr ⟨b,hb,by rw [e];rfl⟩
theorem Am{fp:List Addr}{h:Heap}{p:Addr×Obj}(hp:p∈jJ fp h):p.1∈fp∧h.get? p.1=some p.2:=by
 obtain ⟨b,hb,e⟩:=zq99.mp hp;cases q:h.get? b with
 |none=>rw [q] at e;cases e
 |some o=>
  rw [q] at e;have e':(b,o)=p:=Option.some.inj e;subst e';exact ⟨hb,q⟩
theorem Inv.pinned{pins:List (Addr×Obj)}{σ:St}{H:Hp}{s:Shared}{fp:List Addr}(I:Inv X pins σ H s)(hf:∀b∈fp,eF X pins H b)(ho:∀b∈fp,∃o,s.heap.get? b=some o∧∀v,o.data≠ .cell v):Inv X (pins++jJ fp s.heap) σ H s:=
 I.jg λp hp=>(cq.mp hp).elim (λz=>I.pin p (eY _ z)) λz=>by
  obtain ⟨hb,e⟩:=Am z;obtain ⟨f0,f1,f2,_⟩:=hf p.1 hb;obtain ⟨o,e',d⟩:=ho p.1 hb;rw [e] at e';cases e';exact ⟨e,f0,f1,f2,d⟩
theorem Inv.gU{pins pl:List (Addr×Obj)}{σ:St}{H:Hp}{s:Shared}(I:Inv X (pins++pl) σ H s):Inv X pins σ H s:=I.jg λp hp=>I.pin p (eY _ (dW _ hp))
theorem BC{iter:Expr}{body:List Stmt}{wi:TI}{g:TG}{tb:TS}{pos:Pos}(hp:PassesOwn (model X.prog X.w) X.A X.env X.xe)(hc:X.calm=true)(hi:PI X tg iter wi)(hg:PG X tg g)(hb:ko X body tb)
  (hs:∀x,foldedSetIterable iter X.env x=pure x:=by intro _;rfl):PS X (.For tg iter body [] pos) (Rk wi g tb):=by
 intro pins s σ H D I h;refine wpAny_For (thn (hi pins s σ H _ I h) λv s1 h1=>thn h1 λCk s2 h2=>?_) hs;obtain ⟨it,fp,tn,J,H2,e,I2,T,nh,f2,W,⟨m0,w0⟩,turn⟩:=h2;subst e;have stat:∀{H':Hp},(∀b∈fp,H' b=none)→∀b∈fp,eF X pins H' b:=λhn b hb=>⟨hn b hb,(f2 b hb).2⟩;refine codeAny_forLoop_any (λn s'=>∃i av H',Inv X pins av H' s'∧tn i s'.heap∧(∀b∈fp,H' b=none)∧W i n av H') ?_ m0 ⟨0,σ,H2,I2,nh,λb hb=>(f2 b hb).1,w0⟩;rintro n s3 ⟨i,rg,H3,I3,yX,N7,w3⟩
 rcases turn i n rg H3 w3 with ⟨stop,qn⟩ | ⟨go,N,hN,step⟩
 ·refine wpAny_passesOwn hp (thn (T.done X rfl rfl rfl hc i pins s3 rg H3 X.xe I3 (stat N7) yX stop) λr s4 ⟨hr,I4⟩=>?_)
  subst hr;exact wpAny_execs_nil ⟨rg,H3,I4,qn⟩
 ·refine wpAny_passesOwn hp (thn (T.item X rfl rfl rfl hc i pins s3 rg H3 X.xe I3 (stat N7) yX go) λr s4 ⟨u,hr,h4⟩=>?_)
  subst hr;refine wpAny_passesOwn hp (thn h4 λ_ s5 ⟨x,H5,I5,r5,y5,qZ,ux⟩=>?_);have C6:=I5.pinned (stat ux) (T.obj _ _ qZ);refine wpAny_passesOwn hp (thn (hg _ s5 rg H5 x u _ C6 r5 (step x H5 y5)) λ_ s6 ⟨Xz,H6,I6,q6⟩=>?_);refine wpAny_passesOwn hp (thn (hb _ s6 Xz H6 _ I6 q6) λf s7 q7=>?_)
  have again:∀{lu:St}{H7:Hp},Inv X (pins++jJ fp s5.heap) lu H7 s7→N lu H7→∃m,m<n∧∃i av H',Inv X pins av H' s7∧tn i s7.heap∧(∀b∈fp,H' b=none)∧W i m av H':=λ {lu H7} I7 n7=>by
   obtain ⟨m',hm,w7⟩:=hN lu H7 n7;refine ⟨m',hm,i+1,lu,H7,I7.gU,T.keep _ _ _ qZ λb hb o e=>(I7.pin (b,o) (eY _ (eY _ (cX hb e)))).1,λb hb=>?_,w7⟩;obtain ⟨o,e,d⟩:=T.obj _ _ qZ b hb;exact (I7.pin (b,o) (eY _ (eY _ (cX hb e)))).2.1
  cases f with
  |next=>obtain ⟨lu,H7,I7,n7⟩:=q7;exact again I7 n7
  |cont=>obtain ⟨lu,H7,I7,n7⟩:=q7;exact again I7 n7
  |brk=>obtain ⟨lu,H7,I7,q7⟩:=q7;exact ⟨lu,H7,I7.gU,q7⟩
  |ret v=>obtain ⟨x7,lu,H7,I7,r7,q7⟩:=q7;exact ⟨x7,lu,H7,I7.gU,r7,q7⟩
end
abbrev R2:=V→V→Hp→VK→Prop
def OpR(X:Cx)(f:Value→Value→Sem Value)(r:R2):Prop:=
 ∀(pins:List (Addr×Obj))(s:Shared)(σ:St)(H:Hp)(x y:V)(v u:Value)(Q:VK),Inv X pins σ H s→RelV x v→RelV y u→r x y H Q→
  wpAny (model X.prog X.w) X.A (f v u) (EP X pins σ Q) X.xe s
def UnR(X:Cx)(f:Value→Sem Value)(r:V→Hp→VK→Prop):Prop:=
 ∀(pins:List (Addr×Obj))(s:Shared)(σ:St)(H:Hp)(x:V)(v:Value)(Q:VK),Inv X pins σ H s→RelV x v→r x H Q→
  wpAny (model X.prog X.w) X.A (f v) (EP X pins σ Q) X.xe s
def dB(X:Cx)(f:Value)(r:List V→Hp→VK→Prop):Prop:=
 ∀(pins:List (Addr×Obj))(s:Shared)(σ:St)(H:Hp)(xs:List V)(us:List Value)(Q:VK),Inv X pins σ H s→Vals xs us→r xs H Q→
  wpAny (model X.prog X.w) X.A (call f us) (EP X pins σ Q) X.xe s
def Mq(X:Cx)(r:V→Hp→(Bool→Hp→Prop)→Prop):Prop:=
 ∀(pins:List (Addr×Obj))(s:Shared)(σ:St)(H:Hp)(x:V)(v:Value)(Q:Bool→Hp→Prop),Inv X pins σ H s→RelV x v→r x H Q→
  wpAny (model X.prog X.w) X.A (truthy v) (TP X pins σ Q) X.xe s
def F5(r:R2)(ta tb:TE):TE:=λσ H Q=>ta σ H λx H1=>tb σ H1 λy H2=>r x y H2 Q
def Xs(r:V→Hp→VK→Prop)(ta:TE):TE:=λσ H Q=>ta σ H λx H1=>r x H1 Q
def rI(C:Int→Int→Prop)(g:Int→Int→V):R2:=λx y H Q=>∃i j,x= .int i∧y= .int j∧C i j∧Q (g i j) H
def w4(g:Int→Int→V):R2:=λx y H Q=>∃i j,x= .int i∧y= .int j∧Q (g i j) H
def rU(g:Int→V):V→Hp→VK→Prop:=λx H Q=>∃i,x= .int i∧Q (g i) H
section
variable {X:Cx} {a b c:Expr} {ta tb tc:TE} {pos:Pos}
theorem Ds(ha:PE X a ta)(hb:PE X b tb){pins:List (Addr×Obj)}{s:Shared}{σ:St}{H:Hp}{R:V→V→Hp→Prop}(I:Inv X pins σ H s)
  (h:ta σ H λx H1=>tb σ H1 λy H2=>R x y H2) {Q:Value→Shared→Prop} {f:Value→Value→Sem Value}
  (hf:∀v u s2 x y H2,Inv X pins σ H2 s2→RelV x v→RelV y u→R x y H2→wpAny (model X.prog X.w) X.A (f v u) Q X.xe s2):
  wpAny (model X.prog X.w) X.A (eval a X.env) (λv s₁=>wpAny (model X.prog X.w) X.A (eval b X.env) (λu BL=>wpAny (model X.prog X.w) X.A (f v u) Q X.xe BL) X.xe s₁) X.xe s:=by
 refine thn (ha pins s σ H _ I h) λv s1 ⟨x,H1,I1,r1,q1⟩=>?_;refine thn (hb pins s1 σ H1 _ I1 q1) λu s2 ⟨y,H2,I2,r2,q2⟩=>?_;exact hf v u s2 x y H2 I2 r1 r2 q2
theorem As{op:Operator}{r:R2}(ho:OpR X (binaryOp op) r)(ha:PE X a ta)(hb:PE X b tb):PE X (.BinOp a op b pos) (F5 r ta tb):=by
 intro pins s σ H Q I h;exact wpAny_BinOp (Ds ha hb I h λv u s2 x y H2 I2 rx ry q=>ho pins s2 σ H2 x y v u Q I2 rx ry q)
theorem LI{op:UnaryOp}{r:V→Hp→VK→Prop}(ho:UnR X (unaryOp op) r)(ha:PE X a ta):PE X (.UnaryOp op a pos) (Xs r ta):=by
 intro pins s σ H Q I h;exact UnaryOp_ (thn (ha pins s σ H _ I h) λv s1 ⟨x,H1,I1,r1,q1⟩=>ho pins s1 σ H1 x v Q I1 r1 q1)
theorem Hm{f:Value→Value→Sem Value}{C:Int→Int→Prop}{g:Int→Int→Int}
  (rule:∀(i j:Int)(t u:Tok)(s:Shared)(Q:Value→Shared→Prop)(E:Value→Shared→Prop),C i j→Q (.int (g i j) s.toks) {s with toks:=s.toks+1}→wpAny (model X.prog X.w) X.A (f (.int i t) (.int j u)) Q E s):
  OpR X f (rI C λi j=> .int (g i j)):=by
 intro pins s σ H x y v u Q I rx ry h;obtain ⟨i,j,rfl,rfl,hc,q⟩:=h;obtain ⟨t,rfl⟩:=rx;obtain ⟨t',rfl⟩:=ry;exact rule i j t t' s _ _ hc ⟨.int (g i j),H,I.tok _,⟨_,rfl⟩,q⟩
theorem Jm{f:Value→Value→Sem Value}{g:Int→Int→Int}
  (rule:∀(i j:Int)(t u:Tok)(s:Shared)(Q:Value→Shared→Prop)(E:Value→Shared→Prop),Q (.int (g i j) s.toks) {s with toks:=s.toks+1}→wpAny (model X.prog X.w) X.A (f (.int i t) (.int j u)) Q E s):
  OpR X f (w4 λi j=> .int (g i j)):=by
 intro pins s σ H x y v u Q I rx ry h;obtain ⟨i,j,rfl,rfl,q⟩:=h;obtain ⟨t,rfl⟩:=rx;obtain ⟨t',rfl⟩:=ry;exact rule i j t t' s _ _ ⟨.int (g i j),H,I.tok _,⟨_,rfl⟩,q⟩
theorem EZ{f:Value→Value→Sem Value}{g:Int→Int→Bool}
  (rule:∀(i j:Int)(t u:Tok)(s:Shared)(Q:Value→Shared→Prop)(E:Value→Shared→Prop),Q (.bool (g i j)) s→wpAny (model X.prog X.w) X.A (f (.int i t) (.int j u)) Q E s):
  OpR X f (w4 λi j=> .bl (g i j)):=by
 intro pins s σ H x y v u Q I rx ry h;obtain ⟨i,j,rfl,rfl,q⟩:=h;obtain ⟨t,rfl⟩:=rx;obtain ⟨t',rfl⟩:=ry;exact rule i j t t' s _ _ ⟨.bl (g i j),H,I,rfl,q⟩
def Ik(i j:Int):Prop:=0<j∧j<1073741824
def Im(i j:Int):Prop:=0≤j∧j≤1000000∧i.natAbs<2^64
def AX(i j:Int):Prop:=(-(2^64)<i∧i<2^64)∨(-(2^64)<j∧j<2^64)
theorem AX.ok{i j:Int}(h:AX i j):IntMulOk i j:=by
 rcases h with ⟨h1,h2⟩ | ⟨h1,h2⟩
 ·exact .of_left (intBits_le_64 h1 h2)
 ·exact .of_right (intBits_le_64 h1 h2)
theorem Hn:OpR X (binaryOp .Add) (w4 λi j=> .int (i+j)):=Jm λ_ _ _ _ _ _ _ q=>add_int q
theorem Hw:OpR X (binaryOp .Sub) (w4 λi j=> .int (i-j)):=Jm λ_ _ _ _ _ _ _ q=>sub_int q
theorem Hs:OpR X (binaryOp .Mult) (rI AX λi j=> .int (i*j)):=Hm λ_ _ _ _ _ _ _ hc q=>mul_int q hc.ok
theorem E5:OpR X (binaryOp .FloorDiv) (rI Ik λi j=> .int (i / j)):=Hm λi j _ _ _ _ _ hc q=>by
 have h1:(0:Int)<j:=hc.1;have h2:j<1073741824:=hc.2;exact floordiv_int (by omega) (by rw [Int.fdiv_eq_ediv_of_nonneg i (by omega)];exact q) (.inl (PyProof.noPylong_small (by omega)))
theorem Hr:OpR X (binaryOp .Mod) (rI (λ_ j=>0<j) λi j=> .int (i%j)):=Hm λi j _ _ _ _ _ hc q=>by
 have h1:(0:Int)<j:=hc;exact mod_int' (by omega) (by rw [Int.fmod_eq_emod_of_nonneg i (by omega)];exact q)
theorem Hu:OpR X (binaryOp .Pow) (rI Im λi j=> .int (i^j.toNat)):=Hm λ_ _ _ _ _ _ _ hc q=>pow_int_small hc.1 hc.2.1 hc.2.2 q
theorem Xt{f:Value→Sem Value}{g:Int→Int}
  (rule:∀(i:Int)(t:Tok)(s:Shared)(Q:Value→Shared→Prop)(E:Value→Shared→Prop),Q (.int (g i) s.toks) {s with toks:=s.toks+1}→wpAny (model X.prog X.w) X.A (f (.int i t)) Q E s):
  UnR X f (rU λi=> .int (g i)):=by
 intro pins s σ H x v Q I rx h;obtain ⟨i,rfl,q⟩:=h;obtain ⟨t,rfl⟩:=rx;exact rule i t s _ _ ⟨.int (g i),H,I.tok _,⟨_,rfl⟩,q⟩
theorem Ih:UnR X (unaryOp .USub) (rU λi=> .int (-i)):=Xt λ_ _ _ _ _ q=>neg_int q
end
section
variable {X:Cx} {a b c:Expr} {ta tb tc:TE} {pos:Pos}
theorem Be{pins:List (Addr×Obj)}{σ:St}{H:Hp}{s:Shared}{Q:VK}{k k':Bool}(I:Inv X pins σ H s)(q:Q (.bl k) H)(e:k=k'):EP X pins σ Q (.bool k') s:=by
 subst e;exact ⟨.bl k,H,I,rfl,q⟩
theorem LA:OpR X (compareOp .Lt) (w4 λi j=> .bl (decide (i<j))):=EZ λ_ _ _ _ _ _ _ q=>lt_int q
theorem Lz:OpR X (compareOp .LtE) (w4 λi j=> .bl (decide (i≤j))):=EZ λ_ _ _ _ _ _ _ q=>le_int q
theorem Ly:OpR X (compareOp .Gt) (w4 λi j=> .bl (decide (j<i))):=EZ λ_ _ _ _ _ _ _ q=>gt_int q
theorem Hq:OpR X (compareOp .Is) (λx y H Q=>y= .aZ∧Q (.bl (decide (x= .aZ))) H):=by
 intro pins s σ H x y v u Q I rx ry h;obtain ⟨rfl,q⟩:=h;cases ry;refine is_none_gen (Be I q ?_)
 cases x<;>first
  | (cases rx;rfl)
  | (obtain ⟨t,rfl⟩:=rx;rfl)
theorem E6:OpR X (compareOp .IsNot) (λx y H Q=>y= .aZ∧Q (.bl (!decide (x= .aZ))) H):=by
 intro pins s σ H x y v u Q I rx ry h;obtain ⟨rfl,q⟩:=h;cases ry;refine isnot_none_gen (Be I q ?_)
 cases x<;>first
  | (cases rx;rfl)
  | (obtain ⟨t,rfl⟩:=rx;rfl)
theorem OpR.or{f:Value→Value→Sem Value}{r r':R2}(h:OpR X f r)(h':OpR X f r'):OpR X f (λx y H Q=>r x y H Q∨r' x y H Q):=by
 intro pins s σ H x y v u Q I rx ry q
 rcases q with q|q
 ·exact h pins s σ H x y v u Q I rx ry q
 ·exact h' pins s σ H x y v u Q I rx ry q
theorem bp(b:Expr){op:CmpOp}(h:op≠ .In:=by decide)(h2:op≠ .NotIn:=by decide):behindInMarks op b=false:=by
 have e1:(op==CmpOp.In)=false:=by cases op<;>first|rfl|exact absurd rfl h
 have e2:(op==CmpOp.NotIn)=false:=by cases op<;>first|rfl|exact absurd rfl h2
 cases b<;>simp [behindInMarks,e1,e2]
theorem E9{op:CmpOp}{r:R2}(ho:OpR X (compareOp op) r)(ha:PE X a ta)(hb:PE X b tb)(hm:behindInMarks op b=false):PE X (.Compare a [op] [b] pos) (F5 r ta tb):=by
 intro pins s σ H Q I h;exact wpAny_Compare1 (Ds ha hb I h λv u s2 x y H2 I2 rx ry q=>ho pins s2 σ H2 x y v u Q I2 rx ry q) hm
def AN(t:TE):TT:=λσ H Q=>t σ H λx H'=>∃k,x= .bl k∧Q k H'
theorem Fq{op:CmpOp}{r:R2}(ho:OpR X (compareOp op) r)(ha:PE X a ta)(hb:PE X b tb)(hm:behindInMarks op b=false):PT X (.Compare a [op] [b] pos) (AN (F5 r ta tb)):=by
 intro pins s σ H Q I h
 refine wpAny_isTrue_Compare1 (thn (ha pins s σ H _ I h) λv s1 ⟨x,H1,I1,r1,q1⟩=>thn (hb pins s1 σ H1 _ I1 q1) λu s2 ⟨y,H2,I2,r2,q2⟩=>
  thn (ho pins s2 σ H2 x y v u _ I2 r1 r2 q2) λc s3 ⟨z,H3,I3,r3,k,e,q3⟩=>?_) hm
 subst e;cases r3;exact wpAny_truthy_bool ⟨H3,I3,q3⟩
def xj(r r':R2)(ta tb tc:TE):TE:=λσ H Q=>ta σ H λx H1=>tb σ H1 λy H2=>r x y H2 λz H3=>∃k,z= .bl k∧
 (if k=true then tc σ H3 λw' H4=>r' y w' H4 Q else Q (.bl false) H3)
theorem CF{op m7:CmpOp}{r r':R2}(ho:OpR X (compareOp op) r)(g6:OpR X (compareOp m7) r')(ha:PE X a ta)(hb:PE X b tb)(hc:PE X c tc)
  (hm:lastMarks [op,m7] [b,c]=false:=by with_unfolding_all rfl):PE X (.Compare a [op,m7] [b,c] pos) (xj r r' ta tb tc):=by
 intro pins s σ H Q I h
 refine Compare_chain (thn (ha pins s σ H _ I h) λv s1 ⟨x,H1,I1,r1,q1⟩=>chain_link (thn (hb pins s1 σ H1 _ I1 q1) λu s2 ⟨y,H2,I2,r2,q2⟩=>
  thn (ho pins s2 σ H2 x y v u _ I2 r1 r2 q2) λd s3 ⟨z,H3,I3,r3,k,e,q3⟩=>?_)) hm
 subst e;cases r3;refine wpAny_truthy_bool ?_;cases k with
 |false=>exact ite_ff ⟨.bl false,H3,I3,rfl,q3⟩
 |true=>exact ite_tt (chain_last (thn (hc pins s3 σ H3 _ I3 q3) λw' s4 ⟨z',H4,I4,r4,q4⟩=>g6 pins s4 σ H4 y z' u w' Q I4 r2 r4 q4))
theorem CL{op m7:CmpOp}{r r':R2}(ho:OpR X (compareOp op) r)(g6:OpR X (compareOp m7) r')(ha:PE X a ta)(hb:PE X b tb)(hc:PE X c tc)
  (hm:lastMarks [op,m7] [b,c]=false:=by with_unfolding_all rfl):PT X (.Compare a [op,m7] [b,c] pos) (AN (xj r r' ta tb tc)):=by
 intro pins s σ H Q I h
 refine isTrue_chain (thn (ha pins s σ H _ I h) λv s1 ⟨x,H1,I1,r1,q1⟩=>test_link (thn (hb pins s1 σ H1 _ I1 q1) λu s2 ⟨y,H2,I2,r2,q2⟩=>
  thn (ho pins s2 σ H2 x y v u _ I2 r1 r2 q2) λd s3 ⟨z,H3,I3,r3,k,e,q3⟩=>?_)) hm
 subst e;cases r3;refine wpAny_truthy_bool ?_;cases k with
 |false=>
  obtain ⟨k',e',q'⟩:=q3;cases e';exact ite_ff ⟨H3,I3,q'⟩
 |true=>
  refine ite_tt (test_last (thn (hc pins s3 σ H3 _ I3 q3) λw' s4 ⟨z',H4,I4,r4,q4⟩=>thn (g6 pins s4 σ H4 y z' u w' _ I4 r2 r4 q4) λd' s5 ⟨z2,H5,I5,r5,k2,e2,q5⟩=>?_));subst e2;cases r5;exact wpAny_truthy_bool ⟨H5,I5,q5⟩
def Ip(K:PySem.W.Frag)(x:V)(H:Hp)(k:Bool):Prop:=
 match x with
 | .aZ=>k=false
 | .bl b=>k=b
 | .int i=>k=(i !=0)
 | .str y=>y.length≤sizeLine∧k=((y.length:Int) !=0)
 | .BU y=>y.size≤sizeLine∧k=((y.size:Int) !=0)
 | .ref p=>(∃xs,cc K H p xs∧k= !xs.isEmpty)∨(∃xs,fi K H p xs∧k= !xs.isEmpty)∨∃cW,H p=some (.dK cW)∧k= !cW.isEmpty
 |_=>False
theorem yl{κ:Type}{cW:List (κ×V)}{vs:List (κ×Value)}(r:KV cW vs):(!vs.isEmpty)= !cW.isEmpty:=by
 cases r<;>rfl
theorem qv{xs:List V}{its:List Value}(r:Vals xs its):(!its.toArray.isEmpty)= !xs.isEmpty:=by
 cases r<;>simp
theorem jE:(sizeLine:Nat)<2^63:=by rw [sizeLine_eq];decide
theorem Ie:Mq X (λx H Q=>∃k,Ip X.K x H k∧Q k H):=by
 intro pins s σ H x v Q I rx h;obtain ⟨k,e,q⟩:=h;have hl:=jE;have hs:sizeLine=16777216:=sizeLine_eq;cases x with
 |aZ=>
  cases rx;have e':k=false:=e;subst e';exact truthy_none ⟨H,I,q⟩
 |bl b=>
  cases rx;have e':k=b:=e;subst e';exact wpAny_truthy_bool ⟨H,I,q⟩
 |int i=>
  obtain ⟨t,rfl⟩:=rx;have e':k=(i !=0):=e;subst e';exact PySem.P.truthy_int ⟨H,I,q⟩
 |str y=>
  obtain ⟨t,rfl⟩:=rx;obtain ⟨hy,e'⟩:y.length≤sizeLine∧k=((y.length:Int) !=0):=e;subst e';exact PySem.P.truthy_str (by omega) ⟨H,I.tok _,q⟩
 |BU y=>
  obtain ⟨t,rfl⟩:=rx;obtain ⟨hy,e'⟩:y.size≤sizeLine∧k=((y.size:Int) !=0):=e;subst e';exact PySem.W.truthy_bytes (by omega) ⟨H,I.tok _,q⟩
 |ref p=>
  cases rx;have e':(∃xs,cc X.K H p xs∧k= !xs.isEmpty)∨(∃xs,fi X.K H p xs∧k= !xs.isEmpty)∨∃cW,H p=some (.dK cW)∧k= !cW.isEmpty:=e
  rcases e' with ⟨xs,hx,e'⟩ | ⟨xs,hx,e'⟩ | ⟨cW,hx,e'⟩
  ·subst e'
   obtain ⟨its,r,pl,hz⟩:=I.list hx;have hlen:=r.length;exact wpAny_truthy_list pl.isList (by simp only [b7];omega) ⟨H,I.tok _,by rw [qv r];exact q⟩
  ·subst e'
   obtain ⟨its,r,pl,hz⟩:=I.tuple hx;have hlen:=r.length;exact truthy_tuple pl (by simp only [b7];omega) ⟨H,I.tok _,by rw [qv r];exact q⟩
  ·subst e'
   obtain ⟨hz,hS,vs,r,m⟩:cW.length≤sizeLine∧(p==sysModules)=false∧∃vs,KV cW vs∧s.heap.DictOf (sZ X.prog X.w) p vs:=I.hok p _ hx;have hlen:cW.length=vs.length:=Paired.length r;exact wpAny_truthy_dict hS m (by omega) ⟨H,I.tok _,by rw [yl r];exact q⟩
 |_=>exact (show False from e).elim
theorem CM(ha:PE X a ta)(he:∀whole,isTrue a X.env whole=(do let v ←whole;standAt a.pos;holding [v] (truthy v))):
  PT X a (λσ H Q=>ta σ H λx H'=>∃k,Ip X.K x H' k∧Q k H'):=by
 intro pins s σ H Q I h;exact isTrue_plain (thn (ha pins s σ H _ I h) λv s1 ⟨x,H1,I1,r1,q1⟩=>Ie pins s1 σ H1 x v Q I1 r1 q1) (he _)
theorem vals1{x:V}{us:List Value}(r:Vals [x] us):∃u,us= [u]∧RelV x u:=by
 cases r with
 |cons r1 r2=>cases r2;exact ⟨_,rfl,r1⟩
end
structure rN (h:Heap) (x dx C:Addr) (mA:Str→Option Value):Prop where
 obj:h.get? x=some (PySem.W.instObj C dx)
 ns:h.Ns1 dx mA
 ne:dx≠x
theorem Aa{h:Heap}{dx:Addr}{mA:Str→Option Value}(n:h.Ns1 dx mA):∃od,h.get? dx=some od∧∀name,PySem.W.lookIn name od=some (mA name):=by
 obtain ⟨o,es,ep,ho,hd,hk,_,hm⟩:=n;refine ⟨o,ho,λname=>?_⟩;have e:=hm name;unfold nsFind findBy at e;rw [←Array.find?_toList] at e;unfold PySem.W.lookIn;rw [hd];dsimp only
 split
 ·rename_i y q
  rw [q] at e;exact congrArg some e
 ·rename_i q
  rw [q] at e
  have a:es.toList.any (·.refKey)=false:=by
   rw [List.any_eq_false];intro y hy;obtain ⟨z,t,Bh⟩:=hk y (Array.mem_toList_iff.mp hy);simp [DictEntry.refKey,Bh]
  have a':¬es.toList.any (·.refKey)=true:=by rw [a];exact bY
  rw [if_neg a'];exact congrArg some e
theorem rN.look{h:Heap}{x dx C:Addr}{mA:Str→Option Value}(I:rN h x dx C mA):∃od,PySem.W.InstAt h x (PySem.W.instObj C dx) C (some od)∧∀name,PySem.W.lookIn name od=some (mA name):=
 let ⟨od,ho,hl⟩:=Aa I.ns
 ⟨od,⟨I.obj,rfl,rfl,ho⟩,hl⟩
section
variable {prog:Program} {w:World} {A:Around} {E:Value→Shared→Prop} {s:Shared} {K:PySem.W.Frag} {x dx C f:Addr} {mA:Str→Option Value} {name:Str} {v:Value}
theorem get_map{expr:Bool}{Q:Value→Shared→Prop}(X:K.In s.heap)(I:rN s.heap x dx C mA)(hg:PySem.W.plainGet K C name=true)(hh:PySem.W.hasDictIn K C=true)
  (ha:PySem.W.findIn K (.ref C) name=some none) (hv:mA name=some v) (La:PySem.W.handedIn v=true) (h:Q v {s with toks:=s.toks+1}):
  wpAny (model prog w) A (getAttr (.ref x) name expr) Q E s:=by
 obtain ⟨od,J,hl⟩:=I.look;exact PySem.W.get_value X J (PySem.W.plainGet_of hg).1 (PySem.W.findObj_own hh ha rfl (by rw [hl,hv])) La h
theorem B7{pl:Sem Bool}{Q:Value×List Value→Shared→Prop}(X:K.In s.heap)(I:rN s.heap x dx C mA)(hg:PySem.W.plainGet K C name=true)
  (hf:PySem.W.findIn K (.ref C) name=some (some (.ref f))) (ht:PySem.W.isFn K (.ref f)=true) (hv:mA name=none) (h:Q (.ref f,[.ref x]) s):
  wpAny (model prog w) A (getMethod (.ref x) name pl) Q E s:=by
 obtain ⟨od,J,hl⟩:=I.look;exact PySem.W.method_fn X J (PySem.W.plainGet_of hg).1 (PySem.W.plainGet_of hg).2 hf (beq_iff_eq.mp ht) (by show (PySem.W.lookIn name od).map (·.isSome)=some false;rw [hl,hv];rfl) h
theorem FI{ns:List Str}{Q:Unit→Shared→Prop}(X:K.In s.heap)(I:rN s.heap x dx C mA)
  (hs:PySem.W.findIn K (.ref C) "__setattr__"=some (some (.builtin "object.__setattr__"))) (hp:PySem.W.plainOver K C=true) (ht:PySem.W.takerIn K C name=some none) (hh:PySem.W.hasDictIn K C=true)
  (hw:PySem.Within mA ns) (qS:ns.length≤sizeLine)
  (h:∀h',rN h' x dx C (λy=>if y=name then some v else mA y)→Heap.SameBut dx s.heap h'→Q () {s with heap:=h',toks:=s.toks+2}):
  wpAny (model prog w) A (setAttr (.ref x) name v) Q E s:=by
 obtain ⟨od,J,hl⟩:=I.look;refine PySem.W.set_plain X J hs (PySem.W.osa_open (s:={s with toks:=s.toks+1}) (r:=none) X J hp ht λb=>?_)
 obtain ⟨cd,hc,lT⟩:=PySem.W.any_some hh;have hx:s.heap.get? x=some ⟨.ref C,some dx, .plain, #[]⟩:=I.obj;refine wpAny_bind (wpAny_pure (wpAny_bind (wpAny_bind (wpAny_loadPart hx (wpAny_bind (PySem.W.Looks.here (s:={s with toks:=s.toks+1}) (PySem.W.looks_clsIn X hc) ?_))))))
 rw [lT];refine wpAny_pure (a:=some dx) (wpAny_bind (wpAny_pure (wpAny_bind ?_)));refine wpAny_nsSet1 (s:={s with toks:=s.toks+1}) I.ns λh' GL jA=>?_
 obtain ⟨oD,XS,XR,Ue,TU,TR⟩:=GL.count (PySem.Within.cons name v hw);refine wpAny_bind (wpAny_lookBehind Ue (by rw [TU];exact pastItsLine_dict (j9 TR (by rw [dY];omega))) ?_)
 exact wpAny_pure (h _ ⟨(jA.2 _ (Ne.symm I.ne)).trans I.obj,GL,I.ne⟩ jA)
theorem Ct{R:Result→Shared→Prop}{vs:List Value}{kw:List (Str×Value)}(X:K.In s.heap)(hm:PySem.W.makesIn K C=true)
  (hi:PySem.W.findIn K (.ref C) "__init__"=some (some (.ref f))) (hf:PySem.W.typeIn K (.ref f)=some (.type "function"))
  (h:codeAny (model prog w) (A.under (.builtin "type.__call__" ⟨.ref C::vs,kw⟩)) (.call (.ref f) ⟨.ref (s.heap.objs.size+1)::vs,kw⟩) (PySem.W.InitBack (s.heap.objs.size+1) R)
   {s with heap:=(s.heap.push PySem.W.emptyDict).push (PySem.W.instObj C s.heap.objs.size)}):
  codeAny (model prog w) A (.call (.ref C) ⟨vs,kw⟩) R s:=by
 obtain ⟨hh,g,d,t,os⟩:=s;exact PySem.W.make_core (PySem.W.makes_of X hm) (PySem.W.looks_findIn X hi) (λself=>PySem.W.bind_fn X self hf) (.inl rfl) h
end
def gz(f:Str)(v:V):List (Str×V)→List (Str×V)
 | []=> [(f,v)]
 | (g,x)::r=>if g=f then (g,v)::r else (g,x)::gz f v r
theorem ot(f g:Str)(v:V):∀fs:List (Str×V),(gz f v fs).lookup g=if g=f then some v else fs.lookup g
 | []=>by
  show List.lookup g [(f,v)]=_
  by_cases h:g=f
  ·have hb:(g==f)=true:=beq_iff_eq.mpr h
   simp only [List.lookup,hb,if_pos h]
  ·have hb:(g==f)=false:=beq_eq_false_iff_ne.mpr h
   simp only [List.lookup,hb,if_neg h]
 | (k,x)::r=>by
  have ih:=ot f g v r;rw [show gz f v ((k,x)::r)=(if k=f then (k,v)::r else (k,x)::gz f v r) from rfl]
  by_cases hk:k=f
  ·rw [if_pos hk]
   by_cases h:g=k
   ·have hb:(g==k)=true:=beq_iff_eq.mpr h
    simp only [List.lookup,hb,if_pos (h.trans hk)]
   ·have hb:(g==k)=false:=beq_eq_false_iff_ne.mpr h
    simp only [List.lookup,hb,if_neg (λe:g=f=>h (e.trans hk.symm))]
  ·rw [if_neg hk]
   by_cases h:g=k
   ·have hb:(g==k)=true:=beq_iff_eq.mpr h
    simp only [List.lookup,hb,if_neg (λe:g=f=>hk (h.symm.trans e))]
   ·have hb:(g==k)=false:=beq_eq_false_iff_ne.mpr h
    simp only [List.lookup,hb];exact ih
theorem mV(f:Str)(v:V):∀fs:List (Str×V),f∈(gz f v fs).map (·.1)∧∀g,g∈fs.map (·.1)→g∈(gz f v fs).map (·.1)
 | []=>⟨by simp [gz],λg h=>by simp at h⟩
 | (k,x)::r=>by
  obtain ⟨i1,i2⟩:=mV f v r;rw [show gz f v ((k,x)::r)=(if k=f then (k,v)::r else (k,x)::gz f v r) from rfl]
  by_cases hk:k=f
  ·rw [if_pos hk]
   subst hk;exact ⟨by simp,λg h=>by simpa using h⟩
  ·rw [if_neg hk]
   refine ⟨?_,λg h=>?_⟩
   ·rw [lg]
    exact bV _ i1
   ·rw [lg] at h ⊢
    rcases bQ.mp h with e|e
    ·exact bQ.mpr (.inl e)
    ·exact bV _ (i2 g e)
theorem oq(f:Str)(v:V):∀fs:List (Str×V),(gz f v fs).length≤fs.length+1
 | []=>by simp [gz]
 | (k,x)::r=>by
  have ih:=oq f v r;rw [show gz f v ((k,x)::r)=(if k=f then (k,v)::r else (k,x)::gz f v r) from rfl]
  by_cases hk:k=f
  ·rw [if_pos hk,dY,dY];omega
  ·rw [if_neg hk,dY,dY];omega
theorem lY.some_of{v:V}{o:Option Value}(r:lY (some v) o):∃u,o=some u∧RelV v u:=by
 cases o with
 |none=>exact (show False from r).elim
 |some u=>exact ⟨u,rfl,r⟩
theorem lY.none_of{o:Option Value}(r:lY none o):o=none:=by
 cases o with
 |none=>rfl
 |some u=>exact (show False from r).elim
theorem zI{v:V}{u:Value}(r:RelV v u):PySem.W.handedIn u=true:=by
 cases v with
 |aZ=>cases (show u=Value.none from r);rfl
 |bl b=>cases (show u=Value.bool b from r);rfl
 |int i=>obtain ⟨t,e⟩:=(show ∃t,u=Value.int i t from r);cases e;rfl
 |str x=>obtain ⟨t,e⟩:=(show ∃t,u=Value.str x t from r);cases e;rfl
 |BU b=>obtain ⟨t,e⟩:=(show ∃t,u=Value.bytes b t from r);cases e;rfl
 |zB b=>obtain ⟨t,e⟩:=(show ∃t,u=Value.float b t from r);cases e;rfl
 |ref a=>cases (show u=Value.ref a from r);rfl
 |ty n=>cases (show u=Value.type n from r);rfl
section
variable {P:Program} {w:World} {H H':Hp} {h h':Heap} {a C dx:Addr} {fs Tt:List (Str×V)}
theorem oh(hok:gH P w H h)(e:H a=some (.ins C dx fs)):∃mA,rN h a dx C mA∧(∀f,lY (fs.lookup f) (mA f))∧PySem.Within mA (fs.map (·.1))∧fs.length≤1000∧H dx=some (.own a):=by
 obtain ⟨d,z,ne,ob,mA,n,r,q⟩:=(show cu P w H h a (.ins C dx fs) from hok a _ e);exact ⟨mA,⟨ob,n,ne⟩,r,q,z,d⟩
end
structure rH (K:PySem.W.Frag) (C:Addr):Prop where
 pg:PySem.W.plainGet K C Str.empty=true
 hd:PySem.W.hasDictIn K C=true
 po:PySem.W.plainOver K C=true
 sa:PySem.W.findIn K (.ref C) "__setattr__"=some (some (.builtin "object.__setattr__"))
theorem rH.get{K:PySem.W.Frag}{C:Addr}(c:rH K C)(f:Str):PySem.W.plainGet K C f=true:=c.pg
def ju(K:PySem.W.Frag)(C:Addr)(f:Str):Prop:=PySem.W.findIn K (.ref C) f=some none
theorem ju.Mc{K:PySem.W.Frag}{C:Addr}{f:Str}(n:ju K C f):PySem.W.takerIn K C f=some none:=by
 unfold PySem.W.takerIn;rw [show PySem.W.findIn K (.ref C) f=some none from n];rfl
structure Meth (K:PySem.W.Frag) (C:Addr) (m:Str) (f:Addr):Prop where
 at_:PySem.W.findIn K (.ref C) m=some (some (.ref f))
 fn:PySem.W.isFn K (.ref f)=true
 kp:PySem.W.keepIn K (.ref f)=true
section
variable {X:Cx} {pins:List (Addr×Obj)} {σ:St} {H:Hp} {s:Shared} {a C dx:Addr} {fs:List (Str×V)} {f:Str} {v:V} {A:Around} {E:Value→Shared→Prop}
theorem yd{b:Bool}{Q:Value→Shared→Prop}(I:Inv X pins σ H s)(e:H a=some (.ins C dx fs))(c:rH X.K C)(n:ju X.K C f)(l:fs.lookup f=some v)
  (h:∀u s',Inv X pins σ H s'→RelV v u→Q u s'):wpAny (model X.prog X.w) A (getAttr (.ref a) f b) Q E s:=by
 obtain ⟨mA,O,r,_,_,_⟩:=oh I.hok e;obtain ⟨u,hu,ru⟩:=lY.some_of (v:=v) (o:=mA f) (by rw [←l];exact r f)
 exact get_map I.gh O (c.get f) c.hd n hu (zI ru) (h u _ (I.tok _) ru)
theorem qs{m:Str}{g:Addr}{pl:Sem Bool}{Q:Value×List Value→Shared→Prop}(I:Inv X pins σ H s)(e:H a=some (.ins C dx fs))(c:rH X.K C)(k:Meth X.K C m g)(l:fs.lookup m=none)
  (h:Q (.ref g,[.ref a]) s):wpAny (model X.prog X.w) A (getMethod (.ref a) m pl) Q E s:=by
 obtain ⟨mA,O,r,_,_,_⟩:=oh I.hok e;have hn:mA m=none:=lY.none_of (by rw [←l];exact r m)
 exact B7 I.gh O (c.get m) k.at_ k.fn hn h
theorem yP{y:V}{u:Value}{Q:Unit→Shared→Prop}(I:Inv X pins σ H s)(e:H a=some (.ins C dx fs))(c:rH X.K C)(n:ju X.K C f)(hl:fs.length<1000)(ry:RelV y u)
  (h:∀s',Inv X pins σ (upd H a (.ins C dx (gz f y fs))) s'→Q () s'):wpAny (model X.prog X.w) A (setAttr (.ref a) f u) Q E s:=by
 obtain ⟨mA,O,r,wi,_,ho⟩:=oh I.hok e;have hz:(fs.map (·.1)).length≤sizeLine:=by rw [aJ,sizeLine_eq];omega
 refine FI I.gh O c.sa c.po n.Mc c.hd wi hz λh' O' sb=>h _ ?_;have hd:∃o,h'.get? dx=some o:=let ⟨o,_,_,e',_⟩:=O'.ns;⟨o,e'⟩;refine I.write (x:=a) (e:=dx) (by rw [e];exact True.intro) (.inr ho) (λb q hb z=>(sb.2 b hb).trans z) hd ?_
 refine ⟨by rw [aC O.ne];exact ho,?_,O.ne,O'.obj,_,O'.ns,λg=>?_,λg hg=>?_⟩
 ·have:=oq f y fs;omega
 ·show lY ((gz f y fs).lookup g) (if g=f then some u else mA g)
  rw [ot]
  by_cases q:g=f
  ·rw [if_pos q,if_pos q];exact ry
  ·rw [if_neg q,if_neg q];exact r g
 ·by_cases q:g=f
  ·rw [q];exact (mV f y fs).1
  ·refine (mV f y fs).2 g (wi g λz=>hg ?_)
   show (if g=f then some u else mA g)=none;rw [if_neg q];exact z
theorem Inv.made(I:Inv X pins σ H s):Inv X pins σ (upd (upd H s.heap.objs.size (.own (s.heap.objs.size+1))) (s.heap.objs.size+1) (.ins C s.heap.objs.size []))
  {s with heap:=(s.heap.push PySem.W.emptyDict).push (PySem.W.instObj C s.heap.objs.size)}:=by
 have e1:(s.heap.push PySem.W.emptyDict).get? s.heap.objs.size=some PySem.W.emptyDict:=Heap.get?_push_size s.heap rfl
 have e2:((s.heap.push PySem.W.emptyDict).push (PySem.W.instObj C s.heap.objs.size)).get? (s.heap.objs.size+1)=some (PySem.W.instObj C s.heap.objs.size):=by
  have:=Heap.get?_push_size (s.heap.push PySem.W.emptyDict) (o:=PySem.W.instObj C s.heap.objs.size) rfl
  rwa [Heap.size_push] at this
 have e3:(s.heap.push PySem.W.emptyDict).Ns s.heap.objs.size (λ_=>none):=⟨PySem.W.emptyDict, #[],_,e1,rfl,(λe he=>absurd he (by simp)),λ_=>rfl⟩
 have I1:=I.laid (a:=s.heap.objs.size) (o:= .own (s.heap.objs.size+1)) (h':=s.heap.push PySem.W.emptyDict) (t':=s.toks) (λb u q=>Heap.get?_push_of_some _ q) (bh _) ⟨_,e1⟩;refine I1.laid (a:=s.heap.objs.size+1) (o:= .ins C s.heap.objs.size []) (t':=s.toks) (λb u q=>Heap.get?_push_of_some _ q) (Nat.le_of_eq (Heap.size_push _ _)) ?_;have ne:s.heap.objs.size≠s.heap.objs.size+1:=bZ (Nat.lt_succ_self _);refine ⟨by rw [aC ne,aw],b9 _,ne,e2,λ_=>none,(Heap.Ns1.of_empty e3).at λo q=>Heap.get?_push_of_some _ q,λ_=>True.intro,λy hy=>absurd rfl hy⟩
theorem Dl{prog:Program}{w:World}{env:Env}{e:Expr}{f:Str}{pos:Pos}{s:Shared}{Q:Value→Shared→Prop}(hb:attributeBase e f env (eval e env)=eval e env)
  (h:wpAny (model prog w) A (eval e env) (λo s₁=>wpAny (model prog w) A (getAttr o f true) Q E s₁) E s):wpAny (model prog w) A (eval (.Attribute e f pos) env) Q E s:=
 Attribute_any_ h (by rw [arm_eval_Attribute,hb])
end
def Rj(K:PySem.W.Frag)(ta:TE)(f:Str):TE:=λσ H Q=>ta σ H λx H1=>∃a C dx fs v,x= .ref a∧H1 a=some (.ins C dx fs)∧rH K C∧ju K C f∧fs.lookup f=some v∧Q v H1
def QO(K:PySem.W.Frag)(ta tv:TE)(f:Str):TS:=λD σ H=>tv σ H λy H1=>ta σ H1 λx H2=>∃a C dx fs,x= .ref a∧H2 a=some (.ins C dx fs)∧rH K C∧ju K C f∧fs.length<1000∧
 D.nx σ (upd H2 a (.ins C dx (gz f y fs)))
section
variable {X:Cx} {o e value:Expr} {f:Str} {pos pos' XO:Pos} {ta tv:TE}
theorem HA(he:PE X e ta)(hb:attributeBase e f X.env (eval e X.env)=eval e X.env):PE X (.Attribute e f pos) (Rj X.K ta f):=by
 intro pins s σ H Q I h;refine Dl hb (thn (he pins s σ H _ I h) λu s1 ⟨x,H1,I1,rx,a,C,dx,fs,v,ex,ea,c,n,l,q⟩=>?_);subst ex;obtain rfl:u=Value.ref a:=rx;exact yd I1 ea c n l λu' s2 I2 ru=>⟨v,H1,I2,ru,q⟩
theorem HG(ha:PE X o ta)(hv:PE X value tv)(hs:swapsWith value (some (.Attribute o f pos')) pos.line X.env=pure false):PS X (.Assign [.Attribute o f pos'] value pos) (QO X.K ta tv f):=by
 intro pins s σ H D I h;refine plainObj_wpAny_Assign_Attribute (thn (hv pins s σ H _ I h) λu s1 ⟨y,H1,I1,ry,q⟩=>thn (ha pins s1 σ H1 _ I1 q) λov s2 ⟨x,H2,I2,rx,a,C,dx,fs,ex,ea,c,n,l,q2⟩=>?_) hs;subst ex;obtain rfl:ov=Value.ref a:=rx;exact yP I2 ea c n l ry λs3 I3=>⟨σ,_,I3,q2⟩
end
section
variable {X:Cx} {pins:List (Addr×Obj)} {σ:St} {H:Hp} {s:Shared} {A:Around} {E:Value→Shared→Prop} {Q:Value→Shared→Prop} {c:Value} {b:Bool}
inductive iq (K:PySem.W.Frag) (H:Hp):V→Value→Prop where
 |aZ:iq K H .aZ (.type "NoneType")
 |bl (x:Bool):iq K H (.bl x) (.type "bool")
 |int (i:Int):iq K H (.int i) (.type "int")
 |str (x:Str):iq K H (.str x) (.type "str")
 |zB (x:UInt64):iq K H (.zB x) (.type "float")
 |lst {a:Addr} {xs:List V} (e:H a=some (.lst xs)):iq K H (.ref a) (.type "list")
 |mP {a:Addr} {o:Obj} {xs:List V} (e:H a=some (.mP o (.lst xs))):iq K H (.ref a) (.type "list")
 |tup {a:Addr} {xs:List V} (e:H a=some (.tup xs)):iq K H (.ref a) (.type "tuple")
 |dK {a:Addr} {cW:List (Key×V)} (e:H a=some (.dK cW)):iq K H (.ref a) (.type "dict")
 |dT {a:Addr} {cW:List (List Key×V)} (e:H a=some (.dT cW)):iq K H (.ref a) (.type "dict")
 |ins {a C dx:Addr} {fs:List (Str×V)} (e:H a=some (.ins C dx fs)) (cl:rH K C) (ha:PySem.W.findIn K (.ref C) "__class__"=some (some (.builtin "object.__class__")))
   (hn:PySem.W.specialIn K (.builtin "object.__class__") "__get__"=some (some (.builtin "getset_descriptor.__get__"))) (OS:PySem.W.takesIn K (.builtin "object.__class__")=some true)
   (hm:PySem.W.mroIn K C (.type "object")=some true):iq K H (.ref a) (.ref C)
theorem zZ{x:V}{u t:Value}(I:Inv X pins σ H s)(rx:RelV x u)(ty:iq X.K H x t)(e:PySem.W.kitOne X.K t c=some b)(h:∀tk,Q (.bool b) {s with toks:=tk}):
  wpAny (model X.prog X.w) A (call (.builtin "isinstance") [u,c]) Q E s:=by
 cases ty with
 |aZ=>cases (show u=Value.none from rx);exact PySem.W.kia_one PySem.W.kitx_none I.gh True.intro e (λz=>nomatch z) h
 |bl y=>cases (show u=Value.bool y from rx);exact PySem.W.kia_one PySem.W.kitx_bool I.gh True.intro e (λz=>nomatch z) h
 |int i=>obtain ⟨t,q⟩:=(show ∃t,u=Value.int i t from rx);cases q;exact PySem.W.kia_one PySem.W.kitx_int I.gh True.intro e (λz=>nomatch z) h
 |str y=>obtain ⟨t,q⟩:=(show ∃t,u=Value.str y t from rx);cases q;exact PySem.W.kia_one PySem.W.kitx_str I.gh True.intro e (λz=>nomatch z) h
 |zB y=>obtain ⟨t,q⟩:=(show ∃t,u=Value.float y t from rx);cases q;exact PySem.W.kia_one PySem.W.kitx_float I.gh True.intro e (λz=>nomatch z) h
 | @lst a xs ea=>
  cases (show u=Value.ref a from rx);obtain ⟨_,_,n,_,h1⟩:=(show cu X.prog X.w H s.heap a (.lst xs) from I.hok a _ ea);exact PySem.W.kia_one PySem.W.kitx_list I.gh ⟨_,h1,rfl⟩ e (λz=>nomatch z) h
 | @mP a ob xs ea=>
  cases (show u=Value.ref a from rx);obtain ⟨_,_,_,n,_,h1⟩:=(show cu X.prog X.w H s.heap a (.mP ob (.lst xs)) from I.hok a _ ea);exact PySem.W.kia_one PySem.W.kitx_list I.gh ⟨_,h1,rfl⟩ e (λz=>nomatch z) h
 | @tup a xs ea=>
  cases (show u=Value.ref a from rx);obtain ⟨_,_,_,p⟩:=(show cu X.prog X.w H s.heap a (.tup xs) from I.hok a _ ea);obtain ⟨o,h1,h2,_⟩:=p;exact PySem.W.kia_one PySem.W.kitx_tuple I.gh ⟨o,h1,h2⟩ e (λz=>nomatch z) h
 | @dK a cW ea=>
  cases (show u=Value.ref a from rx);obtain ⟨_,_,vs,_,p⟩:=(show cu X.prog X.w H s.heap a (.dK cW) from I.hok a _ ea);obtain ⟨o,es,ep,h1,h2,_⟩:=p;exact PySem.W.kia_one PySem.W.kitx_dict I.gh ⟨o,h1,h2.1⟩ e (λz=>nomatch z) h
 | @dT a cW ea=>
  cases (show u=Value.ref a from rx);obtain ⟨_,_,xs,_,o,es,ep,h1,h2,_⟩:=(show cu X.prog X.w H s.heap a (.dT cW) from I.hok a _ ea);exact PySem.W.kia_one PySem.W.kitx_dict I.gh ⟨o,h1,h2.1⟩ e (λz=>nomatch z) h
 | @ins a C dx fs ea cl ha hn OS hm=>
  cases (show u=Value.ref a from rx);obtain ⟨mA,O,_⟩:=oh I.hok ea;obtain ⟨od,J,_⟩:=O.look;exact PySem.W.kia_one (PySem.W.kitx_own (cl.get _) cl.hd ha hn OS hm) I.gh J e (λz=>nomatch z) h
end
structure cv (k:Nat) (A:Around):Prop where
 hd:A.handled=none
 dp:A.depth+3*k+5<recursionLimit
 un:A.units+16*k+200<cLine
theorem cv.mono{j k:Nat}{A:Around}(r:cv k A)(h:j≤k):cv j A:=⟨r.hd,by have:=r.dp;omega,by have:=r.un;omega⟩
theorem cv.deeper{k:Nat}{A:Around}(r:cv (k+1) A)(env:Env):cv k (A.deeper env):=
 ⟨r.hd,by have:=r.dp;show A.depth+1+3*k+5<_;omega,by have:=r.un;show A.units+3+16*k+200<_;omega⟩
theorem yu{A:Around}{C:Addr}{us:List Value}{kw:List (Str×Value)}:(A.under (.builtin "type.__call__" ⟨.ref C::us,kw⟩)).depth=A.depth+1:=by
 first|rfl|simp [Around.under,Code.weight,Code.isCreation,Code.isGuard,Code.isCaller,Code.frames,Code.isFrame,guardIds]
theorem yw{A:Around}{C:Addr}{us:List Value}{kw:List (Str×Value)}:(A.under (.builtin "type.__call__" ⟨.ref C::us,kw⟩)).units=A.units+1:=by
 first|rfl|simp [Around.under,Code.cUnits,Code.frames,Code.isFrame]
theorem cv.make{k:Nat}{A:Around}(r:cv (k+1) A)(C:Addr)(us:List Value)(kw:List (Str×Value)):cv k (A.under (.builtin "type.__call__" ⟨.ref C::us,kw⟩)):=
 ⟨r.hd,by have:=r.dp;rw [yu];omega,by have:=r.un;rw [yw];omega⟩
theorem cv.depth{k:Nat}{A:Around}(r:cv k A):A.depth<recursionLimit:=by have:=r.dp;omega
theorem cv.units{k:Nat}{A:Around}(r:cv k A):A.units+64<cLine:=by have:=r.un;omega
def Ju:TA:=λ_ H Q=>Q [] H
def L5(ta:TE)(tr:TA):TA:=λσ H Q=>ta σ H λx H1=>tr σ H1 λxs H2=>Q (x::xs) H2
section
variable {X:Cx} {e:Expr} {es:List Expr} {te:TE} {t:TA} {pos:Pos}
theorem gL:PA X [] Ju:=λ_ _ _ _ H Q I h=>Calls.spliced_nil ⟨[],H,I, .nil,h⟩
theorem dj(ha:PE X e te)(hr:PA X es t)(hs:starEach (e::es) X.env=(false,eval e X.env)::starEach es X.env:=by rfl):PA X (e::es) (L5 te t):=by
 intro pos pins s σ H Q I h;rw [hs];show wpAny _ _ (spliced ((false,eval e X.env)::backTo pos (starEach es X.env))) _ _ s;refine Calls.spliced_cons (thn (ha pins s σ H _ I h) λu s1 ⟨x,H1,I1,r1,q1⟩=>?_);exact thn (hr pos pins s1 σ H1 _ I1 q1) λus s2 ⟨xs,H2,I2,r2,q2⟩=>⟨x::xs,H2,I2, .cons r1 r2,q2⟩
def Rt(t:TA):TE:=λσ H Q=>t σ H λxs H1=>xs.length≤sizeLine∧∀p,H1 p=none→Q (.ref p) (upd H1 p (.tup xs))
def Rm(t:TA):TE:=λσ H Q=>t σ H λxs H1=>xs.length≤sizeLine∧∀p,H1 p=none→Q (.ref p) (upd H1 p (.lst xs))
theorem Bw{x1}(h:PA X es t):PE X (.Tuple es x1 pos) (Rt t):=by
 intro pins s σ H Q I hq;refine wpAny_Tuple_spliced (thn (h pos pins s σ H _ I hq) λus s1 ⟨xs,H1,I1,r,z,q⟩=>⟨by rw [←r.length];exact z,?_⟩)
 have hf:H1 s1.heap.objs.size=none:=I1.hok.fresh (bh _);refine ⟨.ref s1.heap.objs.size,upd H1 s1.heap.objs.size (.tup xs),I1.laid (t':=s1.toks) (λb u e=>Heap.get?_push_of_some _ e) (bh _) ?_,rfl,q _ hf⟩;exact ⟨z,us,r,⟨_,Heap.get?_push_size _ rfl,rfl,_,rfl⟩⟩
theorem Bv(h:PA X es t):PE X (.List es pos) (Rm t):=by
 intro pins s σ H Q I hq;refine wpAny_List_spliced (thn (h pos pins s σ H _ I hq) λus s1 ⟨xs,H1,I1,r,z,q⟩=>⟨by rw [←r.length];exact z,?_⟩)
 have hf:H1 s1.heap.objs.size=none:=I1.hok.fresh (bh _);refine ⟨.ref s1.heap.objs.size,upd H1 s1.heap.objs.size (.lst xs),I1.laid (t':=s1.toks) (λb u e=>Heap.get?_push_of_some _ e) (bh _) ?_,rfl,q _ hf⟩;exact ⟨z,us,0,r,Heap.get?_push_size _ rfl⟩
end
abbrev Sp:=List V→Hp→VK→XK→Prop
abbrev pF:=List Env→Hp→Shared→XK→Value→Shared→Prop
structure Env0 (P:Program) (w:World) (K:PySem.W.Frag) (mg:Str→Option Value) (base:Heap) (A:Around) (outer:List Env) (s:Shared) (H:Hp):Prop where
 frames:A.frames=some outer
 mod:Mod K mg base
 bs:∀b o,base.get? b=some o→s.heap.get? b=some o∧H b=none
 bsz:base.objs.size≤s.heap.objs.size
 funs:s.heap.FunFrames base outer
 frf:∀b∈sH outer,H b=none
 hok:gH P w H s.heap
 bare:AllBare s.gens
def CE(outer:List Env)(P:Program)(w:World)(H:Hp)(s:Shared)(Q:VK)(u:Value)(s':Shared):Prop:=
 ∃v H',s'.os=s.os∧AllBare s'.gens∧Un (sH outer) [] H H' s.heap s'.heap∧gH P w H' s'.heap∧RelV v u∧Q v H'
def CR(CX:pF)(outer:List Env)(P:Program)(w:World)(H:Hp)(s:Shared)(Q:VK)(E:XK)(r:Result)(s':Shared):Prop:=
 match r with
 | .ok (.ret u)=>CE outer P w H s Q u s'
 | .ok _=>False
 | .error e=>CX outer H s E e s'
structure FnOk (P:Program) (w:World) (K:PySem.W.Frag) (mg:Str→Option Value) (base:Heap) (CX:pF) (k:Nat) (f:Addr) (fd:FuncData) (ps:List Str) (sp:Sp):Prop where
 len:∀vs H Q E,sp vs H Q E→vs.length=ps.length
 run:∀(A:Around)(outer:List Env)(s:Shared)(H:Hp)(args:Args)(us:List Value)(vs:List V)(Q:VK)(E:XK),cv k A→Env0 P w K mg base A outer s H→BindsTo s fd args (ps.zip us)→Vals vs us→sp vs H Q E→
  codeAny (model P w) A (.call (.ref f) args) (CR CX outer P w H s Q E) s
theorem FnOk.mono{P:Program}{w:World}{K:PySem.W.Frag}{mg:Str→Option Value}{base:Heap}{CX:pF}{j k:Nat}{f:Addr}{fd:FuncData}{ps:List Str}{sp:Sp}(F:FnOk P w K mg base CX j f fd ps sp)(h:j≤k):
  FnOk P w K mg base CX k f fd ps sp:=⟨F.len,λA outer s H args us vs Q E hr=>F.run A outer s H args us vs Q E (hr.mono h)⟩
theorem FnOk.imp{P:Program}{w:World}{K:PySem.W.Frag}{mg:Str→Option Value}{base:Heap}{CX:pF}{k:Nat}{f:Addr}{fd:FuncData}{ps:List Str}{sp Q8:Sp}(F:FnOk P w K mg base CX k f fd ps sp)
  (h:∀vs H Q E,Q8 vs H Q E→sp vs H Q E):FnOk P w K mg base CX k f fd ps Q8:=
 ⟨λvs H Q E q=>F.len vs H Q E (h _ _ _ _ q),λA outer s H args us vs Q E hr he hb hv hs=>F.run A outer s H args us vs Q E hr he hb hv (h _ _ _ _ hs)⟩
theorem Env0.make{P:Program}{w:World}{K:PySem.W.Frag}{mg:Str→Option Value}{base:Heap}{A:Around}{outer:List Env}{s:Shared}{H:Hp}(e:Env0 P w K mg base A outer s H)(C:Addr)(us:List Value)(kw:List (Str×Value)):
  Env0 P w K mg base (A.under (.builtin "type.__call__" ⟨.ref C::us,kw⟩)) outer s H:=⟨by first|exact e.frames| (simpa [Around.under,Code.envs,Code.isFrame,pushEnvs] using e.frames),e.mod,e.bs,e.bsz,e.funs,e.frf,e.hok,e.bare⟩
section
variable {X:Cx} {pins:List (Addr×Obj)} {σ:St} {H:Hp} {s s':Shared}
theorem Inv.IY(I:Inv X pins σ H s):Env0 X.prog X.w X.K X.mg X.base X.A X.stack s H:=
 ⟨I.ok.frames,I.ok.mod,I.bs,j9 I.ok.bsz I.sz,I.stack,I.yZ,I.hok,I.bare⟩
theorem Inv.after{Q:VK}{u:Value}(I:Inv X pins σ H s)(h:CE X.stack X.prog X.w H s Q u s'):EP X pins σ Q u s':=by
 obtain ⟨v,H',os,bare,un,hok,r,q⟩:=h;obtain ⟨hh,g,d,t,LD⟩:=s';obtain rfl:LD=s.os:=os;exact ⟨v,H',I.call (h':=hh) (g':=g) (d':=d) (t':=t) (ch:= []) un hok bare (λb z=>absurd z (by simp)),r,q⟩
end
def L4(sp:Sp)(bf:List V)(E:XK)(t:TA):TE:=λσ H Q=>t σ H λvs H1=>sp (vs++bf) H1 Q E
def AM(C:Addr)(m:Str)(sp:Sp)(bf:List V)(E:XK)(ta:TE)(t:TA):TE:=λσ H Q=>ta σ H λx H1=>∃a dx fs,x= .ref a∧H1 a=some (.ins C dx fs)∧fs.lookup m=none∧
 t σ H1 λvs H2=>sp (x::(vs++bf)) H2 Q E
def L7(C:Addr)(sp:Sp)(bf:List V)(E:XK)(t:TA):TE:=λσ H Q=>t σ H λvs H1=>∀x dx,H1 x=none→H1 dx=none→dx≠x→
 sp (.ref x::(vs++bf)) (upd (upd H1 dx (.own x)) x (.ins C dx [])) (λv H2=>v= .aZ∧Q (.ref x) H2) E
def Binds(K:PySem.W.Frag)(fd:FuncData)(ps:List Str)(ds:List Value):Prop:=
 ∀(s:Shared)(us:List Value),K.In s.heap→(us++ds).length=ps.length→BindsTo s fd ⟨us,[]⟩ (ps.zip (us++ds))
theorem Binds.all{K:PySem.W.Frag}{fd:FuncData}{ps:List Str}(h:∀us:List Value,us.length=ps.length→bindArgs fd ⟨us,[]⟩=pure (ps.zip us)):Binds K fd ps []:=λs us _ hl=>by
 rw [j5] at hl ⊢;exact .of_eq (h us hl)
def Passes(CX:pF)(X:Cx)(E:XK):Prop:=∀(pins:List (Addr×Obj))(σ:St)(H:Hp)(s:Shared)(e:Value)(s':Shared),Inv X pins σ H s→CX X.stack H s E e s'→X.xe e s'
section
variable {X:Cx} {CX:pF} {k:Nat} {f C:Addr} {fd:FuncData} {ps:List Str} {sp:Sp} {bf:List V} {ds:List Value} {E:XK} {x m:Str} {p pos apos:Pos} {e o:Expr} {es:List Expr} {ta:TE} {t:TA}
theorem xb{pins:List (Addr×Obj)}{σ:St}{H:Hp}{s:Shared}{Q:VK}{us:List Value}{vs:List V}(F:FnOk X.prog X.w X.K X.mg X.base CX k f fd ps sp)(hr:cv k X.A)(hb:Binds X.K fd ps ds)(hd:Vals bf ds)(hx:Passes CX X E)
  (I:Inv X pins σ H s) (r:Vals vs us) (h:sp (vs++bf) H Q E):wpAny (model X.prog X.w) X.A (call (.ref f) us) (EP X pins σ Q) X.xe s:=by
 have r2:Vals (vs++bf) (us++ds):=r.append hd;have hl:(us++ds).length=ps.length:=by rw [←r2.length];exact F.len _ _ _ _ h
 refine wpAny_call (codeAny_mono (F.run X.A X.stack s H ⟨us,[]⟩ (us++ds) (vs++bf) Q E hr I.IY (hb s us I.gh hl) r2 h) λr s' hq=>?_);cases r with
 |error e=>exact hx pins σ H s e s' I hq
 |ok fl=>
  cases fl with
  |ret u=>exact I.after hq
  |next=>exact False.elim hq
  |brk=>exact False.elim hq
  |cont=>exact False.elim hq
theorem E8(F:FnOk X.prog X.w X.K X.mg X.base CX k f fd ps sp)(hr:cv k X.A)(hg:Gl X x)(hm:X.mg x=some (.ref f))(hk:PySem.W.keepIn X.K (.ref f)=true)(hb:Binds X.K fd ps ds)(hd:Vals bf ds)(hx:Passes CX X E)
  (ha:PA X (e::es) t) (kC:(x==("__debug__":Str))=false:=by decide) (he:starEach (e::es) X.env=(false,eval e X.env)::starEach es X.env:=by rfl) (fD:(backTo pos (starEach es X.env)).any (·.1)=false:=by rfl):
  PE X (.Call (.Name x p) (e::es) [] pos) (L4 sp bf E t):=by
 intro pins s σ H Q I h;refine wpAny_Call_Name_kw (sS I hg hm ?_ kC);refine PySem.W.callWith_K (h₀:=X.base) I.ok.mod.kin hk (thn (ha pos pins s σ H _ I h) λus s1 ⟨vs,H1,I1,r,q⟩=>⟨I1.gh,?_⟩) he fD;exact xb F hr hb hd hx I1 r q
theorem Fe{pl:Sem Bool}(he:PE X o ta)(c:rH X.K C)(hm:Meth X.K C m f)(F:FnOk X.prog X.w X.K X.mg X.base CX k f fd ps sp)(hr:cv k X.A)(hb:Binds X.K fd ps ds)(hd:Vals bf ds)(hx:Passes CX X E)(ha:PA X (e::es) t)
  (i7:starEach (e::es) X.env=(false,eval e X.env)::starEach es X.env:=by rfl) (fD:(backTo pos (starEach es X.env)).any (·.1)=false:=by rfl)
  (ht:eval (.Call (.Attribute o m apos) (e::es) [] pos) X.env=(do
   let ov ←eval o X.env
   standAt apos.atName
   let (f,first) ←holding [ov] (getMethod ov m pl)
   callWith pos f first (backTo pos (starEach (e::es) X.env)) (backToKw pos (keywordEach [] X.env))):=by rfl):
  PE X (.Call (.Attribute o m apos) (e::es) [] pos) (AM C m sp bf E ta t):=by
 intro pins s σ H Q I h;refine PySem.W.methodCall_KW (pl:=pl) (thn (he pins s σ H _ I h) λu s1 ⟨x,H1,I1,rx,a,dx,fs,ex,ea,l,q⟩=>?_) ht;subst ex;obtain rfl:u=Value.ref a:=rx;refine qs I1 ea c hm l ?_;refine PySem.W.callWith_K (first:= [.ref a]) (h₀:=X.base) I.ok.mod.kin hm.kp (thn (ha pos pins s1 σ H1 _ I1 q) λus s2 ⟨vs,H2,I2,r,q2⟩=>⟨I2.gh,?_⟩) i7 fD;exact xb (us:= .ref a::us) (vs:= .ref a::vs) F hr hb hd hx I2 (.cons rfl r) q2
theorem CG{pl:Sem Bool}(he:PE X o ta)(c:rH X.K C)(hm:Meth X.K C m f)(F:FnOk X.prog X.w X.K X.mg X.base CX k f fd ps sp)(hr:cv k X.A)(hb:Binds X.K fd ps ds)(hd:Vals bf ds)(hx:Passes CX X E)
  (ht:eval (.Call (.Attribute o m apos) [] [] pos) X.env=(do
   let ov ←eval o X.env
   standAt apos.atName
   let (f,first) ←holding [ov] (getMethod ov m pl)
   callWith pos f first (backTo pos (starEach [] X.env)) (backToKw pos (keywordEach [] X.env))):=by rfl):
  PE X (.Call (.Attribute o m apos) [] [] pos) (AM C m sp bf E ta Ju):=by
 intro pins s σ H Q I h;refine PySem.W.methodCall_KW (pl:=pl) (thn (he pins s σ H _ I h) λu s1 ⟨x,H1,I1,rx,a,dx,fs,ex,ea,l,q⟩=>?_) ht;subst ex;obtain rfl:u=Value.ref a:=rx;refine qs I1 ea c hm l ?_;exact PySem.W.callWith_K0 (first:= [.ref a]) I1.gh hm.kp (xb (us:= [.ref a]) (vs:= [.ref a]) F hr hb hd hx I1 (.cons rfl .nil) q)
structure Mk (K:PySem.W.Frag) (C f:Addr):Prop where
 makes:PySem.W.makesIn K C=true
 init:PySem.W.findIn K (.ref C) "__init__"=some (some (.ref f))
 fn:PySem.W.isFn K (.ref f)=true
 kp:PySem.W.keepIn K (.ref C)=true
theorem CP{pins:List (Addr×Obj)}{σ:St}{H:Hp}{s:Shared}{Q:VK}{us:List Value}{vs:List V}(M:Mk X.K C f)(F:FnOk X.prog X.w X.K X.mg X.base CX k f fd ps sp)(hr:cv (k+1) X.A)(hb:Binds X.K fd ps ds)(hd:Vals bf ds)
  (hx:Passes CX X E) (I:Inv X pins σ H s) (r:Vals vs us)
  (h:∀x dx,H x=none→H dx=none→dx≠x→sp (.ref x::(vs++bf)) (upd (upd H dx (.own x)) x (.ins C dx [])) (λv H2=>v= .aZ∧Q (.ref x) H2) E):
  wpAny (model X.prog X.w) X.A (call (.ref C) us) (EP X pins σ Q) X.xe s:=by
 have hq:=h (s.heap.objs.size+1) s.heap.objs.size (I.hok.fresh (pD _)) (I.hok.fresh (bh _)) (bZ (Nat.lt_succ_self _));have I2:=Inv.made (C:=C) I;have r2:Vals (V.ref (s.heap.objs.size+1)::(vs++bf)) (Value.ref (s.heap.objs.size+1)::(us++ds)):= .cons rfl (r.append hd)
 have hl:(Value.ref (s.heap.objs.size+1)::us++ds).length=ps.length:=by
  have e:=r2.length;rw [F.len _ _ _ _ hq] at e;exact e.symm
 refine wpAny_call (Ct (f:=f) I.gh M.makes M.init (beq_iff_eq.mp M.fn) (codeAny_mono (F.run _ X.stack _ _ ⟨Value.ref (s.heap.objs.size+1)::us,[]⟩ (Value.ref (s.heap.objs.size+1)::(us++ds)) _ _ E (hr.make C us [])
  (I2.IY.make C us []) (hb _ (Value.ref (s.heap.objs.size+1)::us) I2.gh hl) r2 hq) λr s' Ex=>?_))
 cases r with
 |error e=>exact hx pins σ _ _ e s' I2 Ex
 |ok fl=>
  cases fl with
  |ret u=>
   obtain ⟨v,H',I3,rv,ev,q3⟩:=I2.after Ex;subst ev;exact ⟨rv,⟨V.ref (s.heap.objs.size+1),H',I3,rfl,q3⟩⟩
  |next=>exact False.elim Ex
  |brk=>exact False.elim Ex
  |cont=>exact False.elim Ex
theorem Fd(M:Mk X.K C f)(F:FnOk X.prog X.w X.K X.mg X.base CX k f fd ps sp)(hr:cv (k+1) X.A)(hg:Gl X x)(hm:X.mg x=some (.ref C))(hb:Binds X.K fd ps ds)(hd:Vals bf ds)(hx:Passes CX X E)
  (ha:PA X (e::es) t) (kC:(x==("__debug__":Str))=false:=by decide) (he:starEach (e::es) X.env=(false,eval e X.env)::starEach es X.env:=by rfl) (fD:(backTo pos (starEach es X.env)).any (·.1)=false:=by rfl):
  PE X (.Call (.Name x p) (e::es) [] pos) (L7 C sp bf E t):=by
 intro pins s σ H Q I h;refine wpAny_Call_Name_kw (sS I hg hm ?_ kC);refine PySem.W.callWith_K (h₀:=X.base) I.ok.mod.kin M.kp (thn (ha pos pins s σ H _ I h) λus s1 ⟨vs,H1,I1,r,q⟩=>⟨I1.gh,?_⟩) he fD;exact CP M F hr hb hd hx I1 r q
end
section
variable {X:Cx} {CX:pF} {k:Nat} {f C:Addr} {fd:FuncData} {ps ks:List Str} {sp:Sp} {E:XK} {x m:Str} {p pos apos XM:Pos} {e o:Expr} {es:List Expr} {X7:List Keyword} {te ta:TE} {t tk:TA} {nm:Option Str}
variable {g:List Value→List Value→List Value} {gV:List V→List V→List V}
end
structure aH (N P:List Str) (sc:Scope):Prop where
 kind:sc.kind= .function
 co:sc.isCoroutine=false
 gen:sc.isGenerator=false
 nd:N.Nodup
 pre:N.take P.length=P
 par:∀x∈P,sc.names.lookup x=some .local∨sc.names.lookup x=some .cell
 nofree:∀y∈sc.names,y.2≠ .free
theorem rV{kindOf:Str→Option NameKind}{x:Str}:∀{binds:List (Str×Value)}{m:Str→Option Value},(∀v,(x,v)∉binds)→bindL kindOf binds m x=m x
 | [],_,_=>rfl
 | (n,v)::r,m,h=>by
  unfold bindL;rw [rV λw hw=>h w (bV _ hw)]
  split
  ·have:x≠n:=by rintro rfl;exact h v bP
   simp [this]
  ·rfl
theorem rS{kindOf:Str→Option NameKind}{x:Str}:∀{binds:List (Str×Value)}{m:Str→Option Value},(∀v,(x,v)∉binds)→bindC kindOf binds m x=m x
 | [],_,_=>rfl
 | (n,v)::r,m,h=>by
  unfold bindC;rw [rS λw hw=>h w (bV _ hw)]
  split
  ·rfl
  ·have:x≠n:=by rintro rfl;exact h v bP
   simp [this]
theorem rT{kindOf:Str→Option NameKind}{x:Str}{v:Value}:∀{P:List Str}{vs:List Value}{i:Nat}{m:Str→Option Value},P.Nodup→P[i]? =some x→vs[i]? =some v→kindOf x=some .local→
  bindL kindOf (P.zip vs) m x=some v
 | [],_,_,_,_,h,_,_=>by simp at h
 |_::_,[],_,_,_,_,h,_=>by simp at h
 |p::P,w::vs,0,m,nd,h1,h2,hk=>by
  simp at h1 h2;subst h1;subst h2;show bindL kindOf ((p,w)::P.zip vs) m p=_;unfold bindL;rw [rV λv hv=>(fJ.mp nd).1 (List.of_mem_zip hv).1,if_pos hk];simp
 |p::P,w::vs,i+1,m,nd,h1,h2,hk=>by
  show bindL kindOf ((p,w)::P.zip vs) m x=_;unfold bindL;exact rT (i:=i) (fJ.mp nd).2 (by simpa using h1) (by simpa using h2) hk
theorem rR{kindOf:Str→Option NameKind}{x:Str}{v:Value}:∀{P:List Str}{vs:List Value}{i:Nat}{m:Str→Option Value},P.Nodup→P[i]? =some x→vs[i]? =some v→kindOf x≠some .local→
  bindC kindOf (P.zip vs) m x=some v
 | [],_,_,_,_,h,_,_=>by simp at h
 |_::_,[],_,_,_,_,h,_=>by simp at h
 |p::P,w::vs,0,m,nd,h1,h2,hk=>by
  simp at h1 h2;subst h1;subst h2;show bindC kindOf ((p,w)::P.zip vs) m p=_;unfold bindC;rw [rS λv hv=>(fJ.mp nd).1 (List.of_mem_zip hv).1,if_neg hk];simp
 |p::P,w::vs,i+1,m,nd,h1,h2,hk=>by
  show bindC kindOf ((p,w)::P.zip vs) m x=_;unfold bindC;exact rR (i:=i) (fJ.mp nd).2 (by simpa using h1) (by simpa using h2) hk
def start(N:List Str)(vs:List V):St:=vs.map some++List.replicate (N.length-vs.length) none
def qr(CX:pF)(P:Program)(w:World)(K:PySem.W.Frag)(mg:Str→Option Value)(base:Heap)(N:List Str)(qual:Str)(scope:Scope)(f:Addr)(cd:Value)(A:Around)(outer:List Env)(s:Shared)(H:Hp)(E:XK):Cx where
 prog:=P
 w:=w
 K:=K
 mg:=mg
 base:=base
 A:=A.deeper (envOfC qual scope s.heap.objs.size f cd)
 N:=N
 s₀:=s
 H₀:=H
 env:=envOfC qual scope s.heap.objs.size f cd
 outer:=outer
 stack:=envOfC qual scope s.heap.objs.size f cd::outer
 ex:= []
 calm:=true
 fn:=λ_=>true
 pn:= []
 xe:=λe s'=>wpAny (model P w) (A.deeper (envOfC qual scope s.heap.objs.size f cd)) (leaving (envOfC qual scope s.heap.objs.size f cd) e) (λ_ LV=>CX outer H s E e LV) (λe' LV=>CX outer H s E e' LV) s'
theorem uJ{sc:Scope}{n:Nat}{x:Str}(h:sc.names.lookup x=some .cell):∃c,(cellsFrom n sc.names []).lookup x=some c:=by
 have q:=PySem.W.cellsFrom_some sc.names n [] (.inl h);exact Option.isSome_iff_exists.mp q
theorem zX{CX:pF}{P:Program}{w:World}{K:PySem.W.Frag}{mg:Str→Option Value}{base:Heap}{N ps:List Str}{qual:Str}{scope:Scope}{f:Addr}{cd:Value}{A:Around}{outer:List Env}{s s1:Shared}{H:Hp}{E:XK}{us:List Value}{vs:List V}
  (S:aH N ps scope) (hd:A.handled=none) (e0:Env0 P w K mg base A outer s H) (hl:vs.length=ps.length) (r:Vals vs us)
  (x:InCallC s s.heap.objs.size (bindL (envOfC qual scope s.heap.objs.size f cd).kindOf (ps.zip us) λ_=>none) (cellsFrom (s.heap.objs.size+1) scope.names []) (bindC (envOfC qual scope s.heap.objs.size f cd).kindOf (ps.zip us) λ_=>none) s1):
  Inv (qr CX P w K mg base N qual scope f cd A outer s H E) [] (start N vs) H s1:=by
 have fD:ps.length≤N.length:=by have:=congrArg List.length S.pre;rw [b8] at this;omega
 obtain ⟨h1,tk,rfl,hk⟩:=x.done;have EU:∀b:Addr,b∉(qr CX P w K mg base N qual scope f cd A outer s H E).ex:=λb z=>absurd (show b∈([]:List Addr) from z) (by simp)
 refine ⟨⟨e0.mod,S.kind,rfl,rfl,bh _,λy z c h1 h2=>?_,λy hy=>?_,λy c _ h=>?_,λ_=>hd,Around.frames_deeper e0.frames, .inr ⟨rfl,rfl⟩,λb z=>absurd z (EU b),e0.bs,e0.bsz,λb _ _=>EU b,λb z=>absurd z (EU b),e0.funs,e0.frf⟩,
  rfl,e0.bare,Un.kept hk,⟨_,x.toInCall.ns,λi y v h1 h2 h3=>?_⟩,λy c h=>⟨_,x.cell y c h⟩,e0.hok.fresh (bh _),λy c h=>?_,λp hp=>absurd (show p∈([]:List (Addr×Obj)) from hp) (by simp),e0.hok.kept hk,?_⟩
 ·exact name_of_addr x.apart (PySem.mem_of_lookup h1) (PySem.mem_of_lookup h2)
 ·have hy:scope.names.lookup y=some .cell∨scope.names.lookup y=some .free:=hy
  rcases hy with hy|hy
  ·exact uJ hy
  ·exact absurd rfl (S.nofree _ (PySem.mem_of_lookup hy))
 ·exact nB (x.above y c (PySem.mem_of_lookup h))
 ·have hi:i<vs.length:=by
   unfold start at h2
   by_cases hi:i<vs.length
   ·exact hi
   ·rw [fA (by simpa using hi)] at h2
    rw [BP] at h2
    split at h2<;>cases h2
  have ha:vs[i]? =some v:=by
   unfold start at h2;rw [dH (by simpa using hi),eJ] at h2
   cases e:vs[i]? with
   |none=>rw [e] at h2;cases h2
   |some a=>rw [e] at h2;cases h2;rfl
  obtain ⟨u,hu,rv⟩:=r.get ha
  have hp:ps[i]? =some y:=by
   rw [←S.pre,pe (by omega)];exact h1
  have Pu:ps.Nodup:=by rw [←S.pre];exact S.nd.sublist (List.take_sublist _ _)
  refine ⟨u,rv,?_⟩
  rcases S.par y (gD hp) with k|k
  ·exact .inl ⟨k,rT Pu hp hu k⟩
  ·obtain ⟨c,e⟩:=uJ (n:=s.heap.objs.size+1) k
   refine .inr ⟨.inl k,c,e,?_⟩;have q:=x.cell y c e;rw [rR Pu hp hu (by show scope.names.lookup y≠_;rw [k];decide)] at q
   exact q
 ·exact e0.hok.fresh (nB (x.above y c (PySem.mem_of_lookup h)))
 ·unfold start
  show _=N.length;rw [cj,aJ,vG];omega
theorem Kr{CX:pF}{P:Program}{w:World}{K:PySem.W.Frag}{mg:Str→Option Value}{base:Heap}{k:Nat}{f:Addr}{name qual:Str}{params:Arguments}{body:List Stmt}{scope:Scope}{dV kV doc pm bz ct oc:Value}{an od:Option Addr}
  {yC:Array (Option Value)} {N ps:List Str} {sp:Sp} (lk:K.lookup f=some ⟨oc,od, .func (PySem.W.fnOf name qual params body scope dV kV doc pm an bz ct),yC⟩) (fm:PySem.W.codeIn K bz qual=true) (S:aH N ps scope)
  (len:∀vs H Q E,sp vs H Q E→vs.length=ps.length)
  (mS:∀(A:Around)(outer:List Env)(s:Shared)(H:Hp)(vs:List V)(Q:VK)(E:XK),cv k (A.deeper (envOfC qual scope s.heap.objs.size f bz))→sp vs H Q E→
   ∃t,ko (qr CX P w K mg base N qual scope f bz A outer s H E) body t∧t {nx:=λ_ H'=>Q .aZ H',rt:=Q} (start N vs) H):
  FnOk P w K mg base CX (k+1) f (PySem.W.fnOf name qual params body scope dV kV doc pm an bz ct) ps sp:=by
 refine ⟨len,λA outer s H args us vs Q E hr e0 hb r yh=>?_⟩;have hl:=len _ _ _ _ yh;have KX:K.In s.heap:=e0.mod.kin.keeps λb o e=>(e0.bs b o e).1;have lim:s.heap.NoLimit:=e0.mod.nolimit.keeps λb o e=>(e0.bs b o e).1
 have K3:∀y∈ps.zip us,scope.names.lookup y.1=some .local∨(scope.names.lookup y.1=some .cell∧((cellsFrom (s.heap.objs.size+1) scope.names []).lookup y.1).isSome=true):=λ⟨n,v⟩ hy=>by
  rcases S.par n (List.of_mem_zip hy).1 with q|q
  ·exact .inl q
  ·exact .inr ⟨q,PySem.W.cellsFrom_some _ _ _ (.inl q)⟩
 refine codeAny_call_function hr.depth (KX _ _ lk) rfl S.co S.gen rfl (PySem.W.codeRec_of KX fm) (hb _ _ _ _ ?_);refine wpAny_newFunctionEnv_cells S.kind K3 λenv he s1 x=>?_;subst he;refine ⟨lim.keeps x.toInCall.keep,codeAny_func ?_⟩;obtain ⟨t,ht,hq⟩:=mS A outer s H vs Q E (hr.deeper _) yh;have I:Inv (qr CX P w K mg base N qual scope f bz A outer s H E) [] (start N vs) H s1:=zX S hr.hd e0 hl r x;refine wpAny_mono (ht [] s1 (start N vs) H _ I hq) (λfl s' hs=>?_) λe s' hs=>hs
 have fin:∀{av:St}{H':Hp}{v:V}{u:Value},Inv (qr CX P w K mg base N qual scope f bz A outer s H E) [] av H' s'→RelV v u→Q v H'→CE outer P w H s Q u s':=
  λ {av H' v u} J rv q=>⟨v,H',J.os,J.bare,J.base,J.hok,rv,q⟩
 cases fl with
 |ret u=>
  obtain ⟨v,av,H',J,rv,q⟩:=hs;exact fin J rv q
 |next=>
  obtain ⟨av,H',J,q⟩:=hs;exact fin (v:=V.aZ) (u:=Value.none) J rfl q
 |brk=>
  obtain ⟨_,_,_,q⟩:=hs;exact False.elim q
 |cont=>
  obtain ⟨_,_,_,q⟩:=hs;exact False.elim q
section
variable {X:Cx} {x:Str} {p pos:Pos} {e:Expr} {es:List Expr} {t:TA} {id T:String} {r:List V→Hp→VK→Prop}
def Ri(r:List V→Hp→VK→Prop)(t:TA):TE:=λσ H Q=>t σ H λvs H1=>r vs H1 Q
theorem vq(hc:dB X (.builtin id) r)(hg:Gl X x)(hm:X.mg x=none)(hv:bootBuiltins x=some (.builtin id))(ha:PA X (e::es) t)(hn:x≠"__name__":=by decide)(kC:(x==("__debug__":Str))=false:=by decide)
  (he:starEach (e::es) X.env=(false,eval e X.env)::starEach es X.env:=by rfl) (fD:(backTo pos (starEach es X.env)).any (·.1)=false:=by rfl):PE X (.Call (.Name x p) (e::es) [] pos) (Ri r t):=by
 intro pins s σ H Q I h;refine wpAny_Call_Name_kw (gI I hg hm hv ?_ hn kC);exact PyProof.Rows.callWith_builtin1 (thn (ha pos pins s σ H _ I h) λus s1 ⟨vs,H1,I1,r1,q1⟩=>hc pins s1 σ H1 vs us Q I1 r1 q1) he fD
theorem Ar(hc:dB X (.type T) r)(hg:Gl X x)(hm:X.mg x=none)(hv:bootBuiltins x=some (.type T))(ha:PA X (e::es) t)(hn:x≠"__name__":=by decide)(kC:(x==("__debug__":Str))=false:=by decide)
  (he:starEach (e::es) X.env=(false,eval e X.env)::starEach es X.env:=by rfl) (fD:(backTo pos (starEach es X.env)).any (·.1)=false:=by rfl):PE X (.Call (.Name x p) (e::es) [] pos) (Ri r t):=by
 intro pins s σ H Q I h;refine wpAny_Call_Name_kw (gI I hg hm hv ?_ hn kC);exact PyProof.Rows.callWith_type1 (thn (ha pos pins s σ H _ I h) λus s1 ⟨vs,H1,I1,r1,q1⟩=>hc pins s1 σ H1 vs us Q I1 r1 q1) he fD
end
end L2
namespace HT
open PySem PyProof.Rows
section
open PySem.SeqAt
open PySem.AutoSeq1 (wpAny_loadPart')
open PySem.MeetsSeq PySem.MeetsSeq2 PySem.MeetsSeq3
end
section
variable {prog:Program} {w:World} {A:Around} {E:Value→Shared→Prop} {s:Shared}
theorem Dw{t b:Addr}{vs ws:List Value}{Q:Value→Shared→Prop}(ht:IsTup s.heap t vs.toArray)(hb:IsTup s.heap b ws.toArray)(hv:vs≠ [])
  (h1:ws= []→Q (.ref t) s) (h2:ws≠ []→Q (.ref s.heap.objs.size) {s with heap:=s.heap.push {cls:= .type "tuple",data:= .seq (vs++ws).toArray}})
  (qS:vs.length+ws.length≤sizeLine):wpAny (model prog w) A (binaryOp .Add (.ref t) (.ref b)) Q E s:=by
 obtain ⟨⟨cls,dd,data,sl⟩,ho,hc,n,hd⟩:=id ht;obtain ⟨⟨XE,NX,data2,HQ⟩,yg,Ol,n2,hd2⟩:=id hb;simp only at hc hd Ol hd2;subst hc hd Ol hd2;have e:vs.toArray++ws.toArray=(vs++ws).toArray:=by simp
 by_cases hw:ws= []
 ·exact concat_meets ⟨_,ho,rfl⟩ ⟨_,yg,rfl⟩ noFill_tuple_add seq_tuple_add PySem.F.slot_tuple_add PySem.F.entry_tuple_add (PySem.F.args_tuple_add_2 _ _)
   (tuple_addW1 t b vs.toArray ws.toArray n n2 dd NX sl HQ (by simpa using hv) (by simp [hw])) ⟨ho,yg,h1 hw⟩
 ·refine concat_meets ⟨_,ho,rfl⟩ ⟨_,yg,rfl⟩ noFill_tuple_add seq_tuple_add PySem.F.slot_tuple_add PySem.F.entry_tuple_add (PySem.F.args_tuple_add_2 _ _)
   (tuple_addW2 t b vs.toArray ws.toArray n n2 dd NX sl HQ (by simpa using hv) (by simpa using hw) (by rw [b7,b7];exact qS)) ⟨ho,yg,?_⟩
  rw [e];exact h2 hw
def bx(n d:Nat):Option Int→Nat
 |none=>d
 |some v=>if v<0 then (v+(n:Int)).toNat else min v.toNat n
theorem HP(n d:Nat)(hd:d≤n)(o:Option Int):bx n d o≤n:=by
 cases o with
 |none=>exact hd
 |some v=>
  show (if v<0 then (v+(n:Int)).toNat else min v.toNat n)≤n
  by_cases hv:v<0
  ·rw [if_pos hv];omega
  ·rw [if_neg hv];exact Nat.min_le_right _ _
theorem xP(v:Int)(n d:Nat):(if v<0 then max (v+(n:Int)) 0 else min v (n:Int))=((bx n d (some v):Nat):Int):=by
 show (if v<0 then max (v+(n:Int)) 0 else min v (n:Int))=(((if v<0 then (v+(n:Int)).toNat else min v.toNat n):Nat):Int)
 by_cases hv:v<0
 ·simp only [if_pos hv];omega
 ·simp only [if_neg hv];omega
theorem xE(lo hi:Option Int)(n:Nat):Builtin.Slice.sliceAdjust lo hi 1 (n:Int)=(((bx n 0 lo:Nat):Int),((bx n n hi:Nat):Int)):=by
 have h1:¬((1:Int)<0):=by omega
 unfold Builtin.Slice.sliceAdjust;simp only [h1,if_false];refine Prod.ext ?_ ?_
 ·cases lo with
  |none=>rfl
  |some v=>exact xP v n 0
 ·cases hi with
  |none=>rfl
  |some v=>exact xP v n n
theorem yI(i j:Nat):Builtin.Slice.slicePlaces (i:Int) (j:Int) 1=j-i:=by
 unfold Builtin.Slice.slicePlaces;have h1:(1:Int)>0:=by omega
 simp only [h1,if_true,Int.ediv_one]
 split<;>omega
theorem qF{v:Value}{o:Option Int}{Q:Option Int→Shared→Prop}(p:IsPart v o)(h:Q o s):wpAny (model prog w) A (Builtin.Slice.slicePartIndex v) Q E s:=by
 cases p with
 |none=>exact slicePart_none h
 |int i t=>exact slicePart_int h
theorem oS{sl:Addr}{vl vu:Value}{lo hi:Option Int}{n:Nat}{Q:Int×Int×Nat→Shared→Prop}(hs:s.heap.IsSliceOf sl vl vu .none)(pl:IsPart vl lo)(pu:IsPart vu hi)
  (h:Q (((bx n 0 lo:Nat):Int),1,bx n n hi-bx n 0 lo) s):wpAny (model prog w) A (Builtin.Slice.sliceApplied (.ref sl) (pure (n:Int))) Q E s:=by
 obtain ⟨os,wD,Ou,Ca⟩:=id hs;unfold Builtin.Slice.sliceApplied Builtin.Slice.sliceFields;refine wpAny_bind (wpAny_bind (wpAny_field wD Ca (x:=vl) rfl (wpAny_bind (wpAny_field wD Ca (x:=vu) rfl (wpAny_bind (wpAny_field wD Ca (x:= .none) rfl (wpAny_pure ?_)))))));refine wpAny_bind (slicePart_none ?_);show wpAny _ _ (if ((1:Int)==0)=true then _ else _) _ _ s;rw [if_neg (by decide)]
 refine wpAny_bind (qF pl (wpAny_bind (qF pu (wpAny_bind (wpAny_pure ?_)))));show wpAny _ _ (match Builtin.Slice.sliceAdjust lo hi 1 (n:Int) with| (lo,hi)=>pure (lo,(1:Int),Builtin.Slice.slicePlaces lo hi 1)) _ _ s
 rw [xE lo hi n];show wpAny _ _ (pure (((bx n 0 lo:Nat):Int),(1:Int),Builtin.Slice.slicePlaces ((bx n 0 lo:Nat):Int) ((bx n n hi:Nat):Int) 1)) _ _ s;rw [yI];exact wpAny_pure h
theorem CH(xs:Array Value)(i k:Nat):((List.range k).filterMap λ(m:Nat)=>xs[((i:Int)+(m:Int)*1).toNat]?).toArray=((xs.toList.drop i).take k).toArray:=by
 have e:(λ(m:Nat)=>xs[((i:Int)+(m:Int)*1).toNat]?)=λm=>xs[i+m]? :=by
  funext m
  have:((i:Int)+(m:Int)*1).toNat=i+m:=by omega
  rw [this]
 rw [e]
 have:=pick_run xs i k
 rw [List.filterMap_map] at this;have e2:((λx=>xs[x]?)∘λx=>i+x)=λm=>xs[i+m]? :=rfl;rw [e2] at this;rw [this]
theorem mQ{t sl:Addr}{items:Array Value}{vl vu:Value}{lo hi:Option Int}{Q:Value→Shared→Prop}(ht:IsTup s.heap t items)(hs:s.heap.IsSliceOf sl vl vu .none)(pl:IsPart vl lo)(pu:IsPart vu hi)
  (hw:¬(bx items.size 0 lo=0∧bx items.size items.size hi=items.size))
  (h:Q (.ref s.heap.objs.size) {s with heap:=s.heap.push {cls:= .type "tuple",data:= .seq ((items.toList.drop (bx items.size 0 lo)).take (bx items.size items.size hi-bx items.size 0 lo)).toArray}})
  (qS:items.size≤sizeLine):wpAny (model prog w) A (getItem (.ref t) (.ref sl)) Q E s:=by
 have wH:sizeOk (.seq ((items.toList.drop (bx items.size 0 lo)).take (bx items.size items.size hi-bx items.size 0 lo)).toArray):=by
  show ((items.toList.drop (bx items.size 0 lo)).take (bx items.size items.size hi-bx items.size 0 lo)).toArray.size≤sizeLine;rw [b7,b8,eN,gd];omega
 have hj:bx items.size items.size hi≤items.size:=HP _ _ (bh _) hi;obtain ⟨os,wD,Ou,Ca⟩:=id hs;have TL:s.TypeIs (.ref sl) "slice":=⟨os,wD,Ou⟩;unfold getItem
 try with_reducible refine wpAny_holding ?_
 first|refine wpAny_bind (wpAny_pure ?_) |skip
 refine wpAny_bind (wpAny_sequenceKey ht.typeIs (by decide) ?_)
 refine wpAny_bind (wpAny_callSpecial?_slot (name:=Str.ofString "__getitem__") ht.typeIs PyProof.Rows.slot_tuple_getitem
  (wpAny_call_entry PyProof.Rows.slot_tuple_getitem ht.typeIs entry_tuple_getitem ?_ (args_tuple_getitem _ _)))
 show wpAny _ _ (Builtin.Tuple.tupleItemsOf (.ref t)>>=_) _ _ s;refine wpAny_bind (tupleItemsOf_ ht ?_);refine wpAny_bind (wpAny_typeOf TL ?_);rw [if_pos (by decide)]
 refine wpAny_bind (oS hs pl pu ?_)
 have K7:¬((((bx items.size 0 lo:Nat):Int)==0&&(1:Int)==1&&(bx items.size items.size hi-bx items.size 0 lo)==items.size)=true):=by
  intro q;rw [uh,uh] at q;have q1:((bx items.size 0 lo:Nat):Int)=0:=eq_of_beq q.1.1;have q2:bx items.size items.size hi-bx items.size 0 lo=items.size:=eq_of_beq q.2;exact hw ⟨by omega,by omega⟩
 show wpAny _ _ (if (((bx items.size 0 lo:Nat):Int)==0&&(1:Int)==1&&(bx items.size items.size hi-bx items.size 0 lo)==items.size)=true then _ else _) _ _ s;rw [if_neg K7,CH]
 first
  |exact wpAny_bind (m:=Builtin.Tuple.tupleExact _) (wpAny_newObj_type (wpAny_pure ⟨_,rfl,wpAny_pure h⟩) wH)
  |exact wpAny_bind (m:=Builtin.Tuple.tupleExact _) (wpAny_newObj_type (wpAny_bind (wpAny_pure (wpAny_pure ⟨_,rfl,wpAny_pure h⟩))) wH)
  |exact wpAny_bind (wpAny_bind (m:=Builtin.Tuple.tupleExact _) (wpAny_newObj_type (wpAny_pure (wpAny_pure ⟨_,rfl,wpAny_pure h⟩)) wH))
  |exact wpAny_bind (wpAny_bind (m:=Builtin.Tuple.tupleExact _) (wpAny_newObj_type (wpAny_pure ⟨_,rfl,wpAny_pure h⟩) wH))
end
end HT
namespace L2
open PySem PySem.Spec PyProof.Rows
abbrev TO:=St→Hp→(Option Int→Hp→Prop)→Prop
def PO(X:Cx)(e:Option Expr)(t:TO):Prop:=
 ∀(pins:List (Addr×Obj))(s:Shared)(σ:St)(H:Hp)(Q:Option Int→Hp→Prop),Inv X pins σ H s→t σ H Q→
  wpAny (model X.prog X.w) X.A (evalPart e X.env) (λu s'=>∃o H',Inv X pins σ H' s'∧IsPart u o∧Q o H') X.xe s
def F4:TO:=λ_ H Q=>Q none H
def Ma(t:TE):TO:=λσ H Q=>t σ H λx H1=>∃i,x= .int i∧Q (some i) H1
theorem intsAre_of{ns:List Int}:∀{us:List Value},Vals (ns.map V.int) us→IntsAre us ns:=by
 induction ns with
 |nil=>intro us r;rw [List.map_nil] at r;cases r;exact .nil
 |cons n ns ih=>
  intro us r;rw [lg] at r;cases r with
  |cons r1 r2=>
   obtain ⟨t,e⟩:=r1;subst e;exact .cons n t (ih r2)
section
variable {X:Cx} {e:Expr} {te:TE} {lo hi:Option Expr} {tl th:TO} {pos p2:Pos}
theorem Fn:PO X none F4:=by
 intro pins s σ H Q I h;rw [evalPart_none];exact wpAny_pure ⟨none,H,I, .none,h⟩
theorem Fo(h:PE X e te):PO X (some e) (Ma te):=by
 intro pins s σ H Q I hw;rw [evalPart_some];refine thn (h pins s σ H _ I hw) λu s1 ⟨x,H1,I1,r1,q1⟩=>?_;obtain ⟨i,rfl,q⟩:=q1;obtain ⟨t,rfl⟩:=r1;exact ⟨some i,H1,I1, .int i t,q⟩
def zj(X:Cx)(r:V→Option Int→Option Int→Hp→VK→Prop):Prop:=
 ∀(pins:List (Addr×Obj))(s:Shared)(σ:St)(H:Hp)(x:V)(v vl vu:Value)(lo hi:Option Int)(sl:Addr)(Q:VK),Inv X pins σ H s→RelV x v→s.heap.IsSliceOf sl vl vu .none→IsPart vl lo→IsPart vu hi→r x lo hi H Q→
  ∃T id,typeLookup (.type T) "__getitem__"=pure (some (.builtin id))∧s.TypeIs v T∧wpAny (model X.prog X.w) X.A (getItem v (.ref sl)) (EP X pins σ Q) X.xe s
theorem zj.or{r r':V→Option Int→Option Int→Hp→VK→Prop}(h:zj X r)(h':zj X r'):zj X (λx lo hi H Q=>r x lo hi H Q∨r' x lo hi H Q):=by
 intro pins s σ H x v vl vu lo hi sl Q I rx hs pl pu q
 rcases q with q|q
 ·exact h pins s σ H x v vl vu lo hi sl Q I rx hs pl pu q
 ·exact h' pins s σ H x v vl vu lo hi sl Q I rx hs pl pu q
def Xr(r:V→Option Int→Option Int→Hp→VK→Prop)(te:TE)(tl th:TO):TE:=λσ H Q=>te σ H λx H1=>tl σ H1 λl H2=>th σ H2 λu H3=>r x l u H3 Q
theorem vt{r:V→Option Int→Option Int→Hp→VK→Prop}(hr:zj X r)(he:PE X e te)(hl:PO X lo tl)(hu:PO X hi th):PE X (.Subscript e (.Slice lo hi none p2) pos) (Xr r te tl th):=by
 intro pins s σ H Q I h;refine Subscript_ (thn (he pins s σ H _ I h) λv s1 ⟨x,H1,I1,r1,q1⟩=>?_);refine wpAny_Slice (thn (hl pins s1 σ H1 _ I1 q1) λvl s2 ⟨l,H2,I2,pl,q2⟩=>thn (hu pins s2 σ H2 _ I2 q2) λvu s3 ⟨u,H3,I3,pu,q3⟩=>?_);rw [evalPart_none];refine wpAny_pure ?_;have I4:Inv X pins σ H3 {s3 with heap:=s3.heap.push {cls:= .type "slice",data:= .fields #[vl,vu, .none]}}:=I3.kept (t':=s3.toks) λb ob q=>Heap.get?_push_of_some _ q
 obtain ⟨T,id,hT,ht,hg⟩:=hr pins {s3 with heap:=s3.heap.push {cls:= .type "slice",data:= .fields #[vl,vu, .none]}} σ H3 x v vl vu l u s3.heap.objs.size Q I4 r1 (Heap.IsSliceOf.new ..) pl pu q3
 show wpAny (model X.prog X.w) X.A (subscriptTail e (.Slice lo hi none p2) v (.ref s3.heap.objs.size)) (EP X pins σ Q) X.xe {s3 with heap:=s3.heap.push {cls:= .type "slice",data:= .fields #[vl,vu, .none]}}
 exact tail_any (ops:= [.ref s3.heap.objs.size,v]) ht hT hg (by with_unfolding_all rfl)
def qq(xs:List V)(lo hi:Option Int):List V:=(xs.drop (HT.bx xs.length 0 lo)).take (HT.bx xs.length xs.length hi-HT.bx xs.length 0 lo)
theorem nK(xs:List V)(lo hi:Option Int):(qq xs lo hi).length≤xs.length:=by
 unfold qq;rw [b8,eN];omega
def QK(K:PySem.W.Frag):V→Option Int→Option Int→Hp→VK→Prop:=λx lo hi H Q=>∃a xs,x= .ref a∧fi K H a xs∧
 ¬(HT.bx xs.length 0 lo=0∧HT.bx xs.length xs.length hi=xs.length)∧∀p,H p=none→Q (.ref p) (upd H p (.tup (qq xs lo hi)))
theorem HR:zj X (QK X.K):=by
 intro pins s σ H x v vl vu lo hi sl Q I rx hs pl pu h;obtain ⟨a,xs,rfl,hx,hw,q⟩:=h;cases rx;obtain ⟨its,r,ht,hz⟩:=I.tuple hx;have hlen:its.toArray.size=xs.length:=by rw [b7];exact r.length.symm
 refine ⟨"tuple",_,PyProof.Rows.slot_tuple_getitem.lookup,ht.typeIs,?_⟩;refine HT.mQ ht hs pl pu (by rw [hlen];exact hw) ?_ (by rw [hlen];exact hz)
 rw [hlen];refine ⟨.ref s.heap.objs.size,_,I.laid (t':=s.toks) (o:= .tup (qq xs lo hi)) (λb ob q=>Heap.get?_push_of_some _ q) (bh _) ?_,rfl,q _ (I.hok.fresh (bh _))⟩;exact ⟨j9 (nK xs lo hi) hz,_,(r.drop (HT.bx xs.length 0 lo)).take (HT.bx xs.length xs.length hi-HT.bx xs.length 0 lo),IsTup.new _ _⟩
def LQ(K:PySem.W.Frag):R2:=λx y H Q=>∃a b xs ys,x= .ref a∧y= .ref b∧fi K H a xs∧fi K H b ys∧xs≠ []∧xs.length+ys.length≤sizeLine∧
 (ys= []→Q (.ref a) H)∧(ys≠ []→∀p,H p=none→Q (.ref p) (upd H p (.tup (xs++ys))))
theorem Vals.tj{xs:List V}{us:List Value}(r:Vals xs us):us= []↔xs= []:=by
 cases r with
 |nil=>simp
 |cons _ _=>simp
theorem E4:OpR X (binaryOp .Add) (LQ X.K):=by
 intro pins s σ H x y v u Q I rx ry h;obtain ⟨a,b,xs,ys,rfl,rfl,ha,hb,hx,hz,q1,q2⟩:=h;cases rx;cases ry;obtain ⟨its,r1,p1,_⟩:=I.tuple ha;obtain ⟨qw,r2,p2,_⟩:=I.tuple hb;refine HT.Dw p1 p2 (λz=>hx (r1.tj.mp z)) (λz=>⟨.ref a,H,I,rfl,q1 (r2.tj.mp z)⟩) (λz=>?_) (by rw [←r1.length,←r2.length];exact hz)
 refine ⟨.ref s.heap.objs.size,_,I.laid (t':=s.toks) (o:= .tup (xs++ys)) (λb ob q=>Heap.get?_push_of_some _ q) (bh _) ?_,rfl,q2 (λw=>z (r2.tj.mpr w)) _ (I.hok.fresh (bh _))⟩;exact ⟨by rw [cj];exact hz,_,r1.append r2,IsTup.new _ _⟩
end
def mU(n:Nat)(i:Int):Option Nat:=if 0≤i then (if i<n then some i.toNat else none) else if-(n:Int)≤i then some (i+n).toNat else none
def fU{α:Type}(xs:List α)(i:Int):Option α:=(mU xs.length i).bind λj=>xs[j]?
theorem yp{n:Nat}{i:Int}{j:Nat}(h:mU n i=some j):seqIndex? i n=some j∧j<n∧-(n:Int)≤i∧i<n:=by
 unfold mU at h
 by_cases h0:0≤i
 ·rw [if_pos h0] at h
  by_cases h1:i<n
  ·rw [if_pos h1] at h
   have e:i.toNat=j:=Option.some.inj h;exact ⟨by rw [seqIndex_of h0 h1,e],by omega,by omega,h1⟩
  ·rw [if_neg h1] at h;cases h
 ·rw [if_neg h0] at h
  by_cases h1: -(n:Int)≤i
  ·rw [if_pos h1] at h
   have e:(i+n).toNat=j:=Option.some.inj h;exact ⟨by rw [seqIndex_neg (by omega) h1,e],by omega,h1,by omega⟩
  ·rw [if_neg h1] at h;cases h
theorem xF{α:Type}{xs:List α}{i:Int}{v:α}(h:fU xs i=some v):∃j,seqIndex? i xs.length=some j∧xs[j]? =some v∧j<xs.length∧-(xs.length:Int)≤i∧i<xs.length:=by
 unfold fU at h;cases e:mU xs.length i with
 |none=>rw [e] at h;cases h
 |some j=>
  rw [e] at h;obtain ⟨h1,h2,h3,h4⟩:=yp e;exact ⟨j,h1,h,h2,h3,h4⟩
theorem xG{α:Type}{xs:List α}{j:Nat}{v:α}(h:xs[j]? =some v):fU xs (j:Int)=some v:=by
 have hj:j<xs.length:=(fC.mp h).1
 have e:mU xs.length (j:Int)=some j:=by
  unfold mU;rw [if_pos (by omega),if_pos (by omega)];simp
 unfold fU;rw [e];exact h
def xC(b:Expr):Prop:=∀o i,subscripted b false o i=operate [o,i] (getItem o i)
def zh(X:Cx)(r:R2):Prop:=
 ∀(value slice:Expr)(pins:List (Addr×Obj))(s:Shared)(σ:St)(H:Hp)(x y:V)(v u:Value)(Q:VK),Inv X pins σ H s→RelV x v→RelV y u→r x y H Q→
  subscripted slice false v u=operate [v,u] (getItem v u)→wpAny (model X.prog X.w) X.A (subscriptTail value slice v u) (EP X pins σ Q) X.xe s
def Dc(X:Cx)(id:String)(r:V→List V→Hp→VK→Prop):Prop:=
 ∀(pins:List (Addr×Obj))(s:Shared)(σ:St)(H:Hp)(x:V)(xs:List V)(v:Value)(us:List Value)(Q:VK),Inv X pins σ H s→RelV x v→Vals xs us→r x xs H Q→
  wpAny (model X.prog X.w) X.A (call (.builtin id) (v::us)) (EP X pins σ Q) X.xe s
section
variable {X:Cx} {a b:Expr} {ta tb:TE} {pos:Pos}
theorem zh.or{r r':R2}(h:zh X r)(h':zh X r'):zh X (λx y H Q=>r x y H Q∨r' x y H Q):=by
 intro value slice pins s σ H x y v u Q I rx ry q hs
 rcases q with q|q
 ·exact h value slice pins s σ H x y v u Q I rx ry q hs
 ·exact h' value slice pins s σ H x y v u Q I rx ry q hs
theorem LG{r:R2}(hr:zh X r)(ha:PE X a ta)(hb:PE X b tb)(hs:xC b):PE X (.Subscript a b pos) (F5 r ta tb):=by
 intro pins s σ H Q I h;exact Subscript_ (Ds ha hb I h λv u s2 x y H2 I2 rx ry q=>hr a b pins s2 σ H2 x y v u Q I2 rx ry q (hs _ _))
def QE(K:PySem.W.Frag):R2:=λx y H Q=>∃p xs i v,x= .ref p∧y= .int i∧cc K H p xs∧fU xs i=some v∧Q v H
def QF(K:PySem.W.Frag):R2:=λx y H Q=>∃p xs i v,x= .ref p∧y= .int i∧fi K H p xs∧fU xs i=some v∧Q v H
theorem EE:zh X (QE X.K):=by
 intro value slice pins s σ H x y v u Q I rx ry h hs;obtain ⟨p,xs,i,z,rfl,rfl,hq,he,q⟩:=h;cases rx;obtain ⟨t,rfl⟩:=ry;obtain ⟨its,r,pl,hz⟩:=I.list hq;obtain ⟨j,h1,h2,h3,h4,h5⟩:=xF he;obtain ⟨w,ew,FG⟩:=r.get h2;have hl:=r.length;have hn:=jE;have fin:EP X pins σ Q w s:=⟨z,H,I,FG,q⟩
 by_cases h0:0≤i
 ·have hj:i.toNat=j:=by
   rw [seqIndex_of h0 h5] at h1;exact Option.some.inj h1
  exact item_listR pl.isList h0 (by omega) (by rw [hj];simpa using ew) fin hs
 ·have hj:(i+(its.toArray.size:Int)).toNat=j:=by
   rw [seqIndex_neg (by omega) h4] at h1
   rw [b7,←hl];exact Option.some.inj h1
  exact subscriptTail_builtinR (x:=w) pl.isList.typeIs slot_list_getitem.lookup
   (wpAny_getItem_list_neg (Q:=λr s'=>r=w∧EP X pins σ Q r s') pl.isList (by omega) (by rw [b7]<;>omega) (by omega) (by rw [hj];simpa using ew) ⟨rfl,fin⟩) hs
theorem GS:zh X (QF X.K):=by
 intro value slice pins s σ H x y v u Q I rx ry h hs;obtain ⟨p,xs,i,z,rfl,rfl,hq,he,q⟩:=h;cases rx;obtain ⟨t,rfl⟩:=ry;obtain ⟨its,r,pl,hz⟩:=I.tuple hq;obtain ⟨j,h1,h2,h3,h4,h5⟩:=xF he;obtain ⟨w,ew,FG⟩:=r.get h2;have hl:=r.length;have hn:=jE;have fin:EP X pins σ Q w s:=⟨z,H,I,FG,q⟩
 exact subscriptTail_builtinR (x:=w) pl.typeIs slot_tuple_getitem.lookup
  (getItem_tuple (j:=j) (Q:=λr s'=>r=w∧EP X pins σ Q r s') pl (by omega) (by omega) (by rw [b7,←hl];exact h1) (by simpa using ew) ⟨rfl,fin⟩) hs
theorem yx(its:List Value)(n j:Nat)(u:Value):Obj.mapSeq (·.setIfInBounds j u) {cls:= .type "list",data:= .seq its.toArray n}={cls:= .type "list",data:= .seq (its.set j u).toArray n}:=by
 simp [Obj.mapSeq]
theorem Inv.lst{pins:List (Addr×Obj)}{σ:St}{H:Hp}{s:Shared}{p:Addr}{xs:List V}(I:Inv X pins σ H s)(h:H p=some (.lst xs)):
  ∃(its:List Value)(n:Nat),Vals xs its∧s.heap.get? p=some {cls:= .type "list",data:= .seq its.toArray n}∧xs.length≤sizeLine:=by
 obtain ⟨z,its,n,r,e⟩:=I.hok p _ h;exact ⟨its,n,r,e,z⟩
theorem Inv.He{pins:List (Addr×Obj)}{σ:St}{H:Hp}{s:Shared}{p:Addr}{xs ys:List V}{its its':List Value}{n n':Nat}{f:Obj→Obj}(I:Inv X pins σ H s)(h:H p=some (.lst xs))
  (ho:s.heap.get? p=some {cls:= .type "list",data:= .seq its.toArray n}) (hf:f {cls:= .type "list",data:= .seq its.toArray n}={cls:= .type "list",data:= .seq its'.toArray n'}) (r:Vals ys its') (hz:ys.length≤sizeLine) (t:Nat):
  Inv X pins σ (upd H p (.lst ys)) {s with heap:=s.heap.update p f,toks:=t}:=by
 have e:(s.heap.update p f).get? p=some {cls:= .type "list",data:= .seq its'.toArray n'}:=by
  rw [Heap.get?_update_self f ho (by rw [hf]<;>rfl),hf]
 refine I.write (x:=p) (e:=p) (by rw [h];trivial) (.inl rfl) (λb u hb q=>(Heap.get?_update_other _ _ (Ne.symm hb)).trans q) ⟨_,e⟩ ?_
 exact ⟨hz,its',n',r,e⟩
def LS:V→V→V→Hp→(Hp→Prop)→Prop:=λo i v H Q=>∃p xs k j,o= .ref p∧i= .int k∧H p=some (.lst xs)∧mU xs.length k=some j∧Q (upd H p (.lst (xs.set j v)))
theorem set_list:Io X LS:=by
 intro pins s σ H o i v ov iv u Q I ro ri rv h;obtain ⟨p,xs,k,j,rfl,rfl,hp,hj,q⟩:=h;cases ro;obtain ⟨t,rfl⟩:=ri;obtain ⟨its,n,r,ho,hz⟩:=I.lst hp;obtain ⟨h1,h2,h3,h4⟩:=yp hj;have hl:=r.length;have hn:=jE
 have I':Inv X pins σ (upd H p (.lst (xs.set j v))) {s with heap:=s.heap.update p (Obj.mapSeq (·.setIfInBounds j u))}:=
  I.He hp ho (yx its n j u) (r.set rv j) (by rw [j6];exact hz) s.toks
 by_cases h0:0≤k
 ·have hk:k.toNat=j:=by
   rw [seqIndex_of h0 h4] at h1;exact Option.some.inj h1
  exact PySem.W.ki_setAt ho h0 (by omega) (by rw [b7,←hl];exact h4) (by rw [hk];exact ⟨_,I',q⟩)
 ·have hk:(k+(its.toArray.size:Int)).toNat=j:=by
   rw [seqIndex_neg (by omega) h3] at h1
   rw [b7,←hl];exact Option.some.inj h1
  exact PySem.W.ki_setBack ho (by omega) (by rw [b7,←hl];exact h3) (by omega) (by rw [hk];exact ⟨_,I',q⟩)
theorem uF(lo hi:Option Int)(n:Nat):(sliceBounds lo hi none n).1=((HT.bx n 0 lo:Nat):Int)∧(sliceBounds lo hi none n).2.1=((HT.bx n n hi:Nat):Int)∧(sliceBounds lo hi none n).2.2=1:=by
 refine ⟨?_,?_,rfl⟩
 ·cases lo with
  |none=>simp [sliceBounds,HT.bx]
  |some i=>
   simp only [sliceBounds,HT.bx,Option.getD_none,show (1:Int)>0 by decide,if_true]
   by_cases h:i<0
   ·simp only [h,if_true]<;>omega
   ·simp only [h,if_false]<;>omega
 ·cases hi with
  |none=>simp [sliceBounds,HT.bx]
  |some i=>
   simp only [sliceBounds,HT.bx,Option.getD_none,show (1:Int)>0 by decide,if_true]
   by_cases h:i<0
   ·simp only [h,if_true]<;>omega
   ·simp only [h,if_false]<;>omega
theorem tS(its:List Value)(lo hi:Option Int):slicePick its.toArray lo hi none=((its.drop (HT.bx its.length 0 lo)).take (HT.bx its.length its.length hi-HT.bx its.length 0 lo)).toArray:=by
 obtain ⟨h1,h2,h3⟩:=uF lo hi its.toArray.size;unfold slicePick;rw [h1,h2,h3];simp only [sliceRange_one,pick_run,b7]<;>rfl
def QJ(K:PySem.W.Frag):V→Option Int→Option Int→Hp→VK→Prop:=λx lo hi H Q=>∃a xs,x= .ref a∧cc K H a xs∧∀p,H p=none→Q (.ref p) (upd H p (.lst (qq xs lo hi)))
theorem yQ:zj X (QJ X.K):=by
 intro pins s σ H x v vl vu lo hi sl Q I rx hs pl pu h;obtain ⟨a,xs,rfl,hx,q⟩:=h;cases rx;obtain ⟨its,r,ht,hz⟩:=I.list hx;have hlen:=r.length;refine ⟨"list",_,slot_list_getitem.lookup,ht.isList.typeIs,?_⟩;refine wpAny_getItem_list_slice ht.isList hs pl pu .none (by simp) ?_ (by rw [b7]<;>omega)
 rw [tS,←hlen];refine ⟨.ref s.heap.objs.size,_,I.laid (t':=s.toks) (o:= .lst (qq xs lo hi)) (λb ob q=>Heap.get?_push_of_some _ q) (bh _) ?_,rfl,q _ (I.hok.fresh (bh _))⟩;exact ⟨j9 (nK xs lo hi) hz,_,0,(r.drop (HT.bx xs.length 0 lo)).take (HT.bx xs.length xs.length hi-HT.bx xs.length 0 lo),Heap.get?_push_size _ rfl⟩
def fP:V→Bool
 | .aZ=>true
 | .bl _=>true
 | .int _=>true
 | .str _=>true
 |_=>false
def sE:V→V→Bool
 | .aZ, .aZ=>true
 | .bl a, .bl b=>a==b
 | .bl a, .int b=>(if a then 1 else 0)==b
 | .int a, .bl b=>a==(if b then 1 else 0)
 | .int a, .int b=>a==b
 | .str a, .str b=>a==b
 |_,_=>false
theorem GD{A:Around}{s:Shared}{y x:V}{u v:Value}(ry:RelV y u)(rx:RelV x v)(fy:fP y=true)(fx:fP x=true):SeqAt.EqAt A s u v (sE y x):=by
 cases y with
 |aZ=>
  cases ry;cases x with
  |aZ=>cases rx;exact SeqAt.EqAt.same _
  |bl b=>cases rx;exact SeqAt.EqAt.none_bool b
  |int b=>obtain ⟨t,rfl⟩:=rx;exact SeqAt.EqAt.none_int b t
  |str b=>obtain ⟨t,rfl⟩:=rx;exact SeqAt.EqAt.none_str b t
  |_=>exact absurd (show false=true from fx) bY
 |bl a=>
  cases ry;cases x with
  |aZ=>cases rx;exact SeqAt.EqAt.bool_none a
  |bl b=>cases rx;exact SeqAt.EqAt.bool_bool a b
  |int b=>obtain ⟨t,rfl⟩:=rx;exact SeqAt.EqAt.bool_int a b t
  |str b=>obtain ⟨t,rfl⟩:=rx;exact SeqAt.EqAt.bool_str a b t
  |_=>exact absurd (show false=true from fx) bY
 |int a=>
  obtain ⟨t',rfl⟩:=ry;cases x with
  |aZ=>cases rx;exact SeqAt.EqAt.int_none a t'
  |bl b=>cases rx;exact SeqAt.EqAt.int_bool a t' b
  |int b=>obtain ⟨t,rfl⟩:=rx;exact SeqAt.EqAt.int_int a t' b t
  |str b=>obtain ⟨t,rfl⟩:=rx;exact SeqAt.EqAt.int_str a t' b t
  |_=>exact absurd (show false=true from fx) bY
 |str a=>
  obtain ⟨t',rfl⟩:=ry;cases x with
  |aZ=>cases rx;exact SeqAt.EqAt.str_none a t'
  |bl b=>cases rx;exact SeqAt.EqAt.str_bool a t' b
  |int b=>obtain ⟨t,rfl⟩:=rx;exact SeqAt.EqAt.str_int a t' b t
  |str b=>obtain ⟨t,rfl⟩:=rx;exact SeqAt.EqAt.str_str a t' b t
  |_=>exact absurd (show false=true from fx) bY
 |_=>exact absurd (show false=true from fy) bY
def lS(x:V)(u:Value):Bool:=match u with
 | .none=>sE .aZ x
 | .bool b=>sE (.bl b) x
 | .int i _=>sE (.int i) x
 | .str z _=>sE (.str z) x
 |_=>false
theorem rD{x y:V}{u:Value}(r:RelV y u)(f:fP y=true):lS x u=sE y x:=by
 cases y with
 |aZ=>cases r;rfl
 |bl b=>cases r;rfl
 |int i=>obtain ⟨t,rfl⟩:=r;rfl
 |str z=>obtain ⟨t,rfl⟩:=r;rfl
 |_=>exact absurd (show false=true from f) bY
theorem ku{x:V}:∀{xs:List V}{us:List Value},Vals xs us→xs.all fP=true→us.any (lS x)=xs.any λy=>sE y x
 |_,_, .nil,_=>rfl
 |y::xs,u::us, .cons r t,f=>by
  rw [List.all_cons,uh] at f;rw [List.any_cons,List.any_cons,rD r f.1,ku t f.2]
theorem gQ{A:Around}{s:Shared}{x:V}{v:Value}(rx:RelV x v)(fx:fP x=true):∀{xs:List V}{us:List Value},Vals xs us→xs.all fP=true→∀u∈us,SeqAt.EqAt A s u v (lS x u)
 |_,_, .nil,_=>λu hu=>by cases hu
 |y::xs,u::us, .cons r t,f=>λu' hu=>by
  rw [List.all_cons,uh] at f
  rcases bQ.mp hu with rfl|hu
  ·rw [rD r f.1];exact GD r rx f.1 fx
  ·exact gQ rx fx t f.2 u' hu
def GQ(x:V)(xs:List V):Bool:=xs.any λy=>sE y x
def LR(K:PySem.W.Frag)(neg:Bool):R2:=λx y H Q=>∃p xs,y= .ref p∧(cc K H p xs∨fi K H p xs)∧fP x=true∧xs.all fP=true∧Q (.bl (if neg then !GQ x xs else GQ x xs)) H
theorem Ao:OpR X (compareOp .In) (LR X.K false):=by
 intro pins s σ H x y v u Q I rx ry h;obtain ⟨p,xs,rfl,hq,fx,fs,q⟩:=h;cases ry
 rcases hq with hq|hq
 ·obtain ⟨its,r,pl,hz⟩:=I.list hq
  refine SeqAt.in_listAt (lS x) pl.isList (λw hw=>gQ rx fx r fs w (by simpa using hw)) ⟨.bl _,H,I,rfl,?_⟩
  rw [show its.toArray.any (lS x)=its.any (lS x) by simp,ku r fs]
  exact q
 ·obtain ⟨its,r,pl,hz⟩:=I.tuple hq
  refine SeqAt.in_tupleAt (lS x) pl (λw hw=>gQ rx fx r fs w (by simpa using hw)) ⟨.bl _,H,I,rfl,?_⟩
  rw [show its.toArray.any (lS x)=its.any (lS x) by simp,ku r fs]
  exact q
theorem uD:OpR X (compareOp .NotIn) (LR X.K true):=by
 intro pins s σ H x y v u Q I rx ry h;obtain ⟨p,xs,rfl,hq,fx,fs,q⟩:=h;cases ry
 rcases hq with hq|hq
 ·obtain ⟨its,r,pl,hz⟩:=I.list hq
  refine SeqAt.notIn_listAt (lS x) pl.isList (λw hw=>gQ rx fx r fs w (by simpa using hw)) ⟨.bl _,H,I,rfl,?_⟩
  rw [show its.toArray.any (lS x)=its.any (lS x) by simp,ku r fs]
  exact q
 ·obtain ⟨its,r,pl,hz⟩:=I.tuple hq
  refine SeqAt.notIn_tupleAt (lS x) pl (λw hw=>gQ rx fx r fs w (by simpa using hw)) ⟨.bl _,H,I,rfl,?_⟩
  rw [show its.toArray.any (lS x)=its.any (lS x) by simp,ku r fs]
  exact q
theorem uq:dB X (.builtin "len") (λxs H Q=>∃p ys,xs= [.ref p]∧(cc X.K H p ys∨fi X.K H p ys)∧Q (.int ys.length) H):=by
 intro pins s σ H xs us Q I r h;obtain ⟨p,ys,rfl,hq,q⟩:=h;obtain ⟨u,rfl,rx⟩:=vals1 r;cases rx;have hn:=jE
 rcases hq with hq|hq
 ·obtain ⟨its,r',pl,hz⟩:=I.list hq
  have hlen:=r'.length;exact Calls.call_len_list pl.isList (by simp only [b7]<;>omega) ⟨.int ys.length,H,I.tok _,⟨s.toks+1,by rw [b7,hlen]⟩,q⟩
 ·obtain ⟨its,r',pl,hz⟩:=I.tuple hq
  have hlen:=r'.length;exact len_tuple pl (by simp only [b7]<;>omega) ⟨.int ys.length,H,I.tok _,⟨s.toks+1,by rw [b7,hlen]⟩,q⟩
theorem ur:dB X (.type "list") (λxs H Q=>∃p ys,xs= [.ref p]∧(cc X.K H p ys∨fi X.K H p ys)∧∀l,H l=none→Q (.ref l) (upd H l (.lst ys))):=by
 intro pins s σ H xs us Q I r h;obtain ⟨p,ys,rfl,hq,q⟩:=h;obtain ⟨u,rfl,rx⟩:=vals1 r;cases rx
 have fin:∀(its:List Value),Vals ys its→ys.length≤sizeLine→∀(h':Heap)(c':Nat),(∀b o',s.heap.get? b=some o'→h'.get? b=some o')→
   h'.get? s.heap.objs.size=some {cls:= .type "list",dict:=none,data:= .seq its.toArray c',slots:= #[]}→EP X pins σ Q (.ref s.heap.objs.size) {s with heap:=h'}:=λits r' hz h' c' kp e=>
  ⟨.ref s.heap.objs.size,_,I.laid (t':=s.toks) kp (bh _) (show cu X.prog X.w _ h' _ (.lst ys) from ⟨hz,its,c',r',e⟩),rfl,q _ (I.hok.fresh (bh _))⟩
 rcases hq with hq|hq
 ·obtain ⟨its,r',pl,hz⟩:=I.list hq
  have hlen:=r'.length;obtain ⟨o,ho,hc,n,hd⟩:=pl.isList;exact call_list_seq p (.inl rfl) ho hc hd (λh' c' kp e=>fin its r' hz h' c' kp e) (by simp only [b7]<;>omega)
 ·obtain ⟨its,r',pl,hz⟩:=I.tuple hq
  have hlen:=r'.length;obtain ⟨o,ho,hc,n,hd⟩:=pl;exact call_list_seq p (.inr rfl) ho hc hd (λh' c' kp e=>fin its r' hz h' c' kp e) (by simp only [b7]<;>omega)
def Ig(K:PySem.W.Frag)(T:String)(x:V)(H:Hp):Prop:=match x with
 | .str _=>T="str"
 | .int _=>T="int"
 | .ref p=>(T="list"∧∃xs,cc K H p xs)∨(T="tuple"∧∃o,K.lookup p=some o∧o.cls= .type "tuple"∧o.dict=none)∨
   (T="dict"∧((∃cW,H p=some (.dK cW))∨∃cW,H p=some (.dT cW)))∨(T="set"∧∃S n,H p=some (.set S n))
 |_=>False
theorem BM{pins:List (Addr×Obj)}{σ:St}{H:Hp}{s:Shared}{T:String}{x:V}{v:Value}(I:Inv X pins σ H s)(r:RelV x v)(ty:Ig X.K T x H):
  s.TypeIs v T∧∀a,v= .ref a→∃ob,s.heap.get? a=some ob∧ob.dict=none:=by
 cases x with
 |str z=>
  obtain ⟨t,rfl⟩:=r;cases (show T="str" from ty);exact ⟨typeIs_str s z t,λ_ e=>nomatch e⟩
 |int i=>
  obtain ⟨t,rfl⟩:=r;cases (show T="int" from ty);exact ⟨typeIs_int s i t,λ_ e=>nomatch e⟩
 |ref p=>
  cases r
  rcases ty with ⟨rfl,xs,hq⟩ | ⟨rfl,o,hk,hc,hd⟩ | ⟨rfl,hk⟩ | ⟨rfl,S,n,hk⟩
  ·obtain ⟨its,_,pl,_⟩:=I.list hq
   refine ⟨pl.isList.typeIs,λa e=>?_⟩;cases e;obtain ⟨o,n,e,c,hd,_⟩:=pl;exact ⟨o,e,hd⟩
  ·refine ⟨⟨o,I.gh p o hk,hc⟩,λa e=>?_⟩
   cases e;exact ⟨o,I.gh _ o hk,hd⟩
  ·have z:∃o,s.heap.get? p=some o∧o.ExactDict:=by
    rcases hk with ⟨cW,hk⟩ | ⟨cW,hk⟩
    ·obtain ⟨_,_,_,_,o,_,_,e,ex,_⟩:=I.hok p _ hk
     exact ⟨o,e,ex⟩
    ·obtain ⟨_,_,_,_,o,_,_,e,ex,_⟩:=I.hok p _ hk
     exact ⟨o,e,ex⟩
   obtain ⟨o,e,ex⟩:=z;refine ⟨⟨o,e,ex.1⟩,λa e2=>?_⟩;cases e2;exact ⟨o,e,ex.2.1⟩
  ·obtain ⟨o,_,_,_,e,ex,_⟩:=I.hok p _ hk
   refine ⟨⟨o,e,ex.1⟩,λa e2=>?_⟩;cases e2;exact ⟨o,e,ex.2.1⟩
 |_=>exact False.elim ty
def Rg(K:PySem.W.Frag)(T:String)(r:V→List V→Hp→VK→Prop)(to:TE):TE:=λσ H Q=>to σ H λx H1=>Ig K T x H1∧r x [] H1 Q
def Xo(K:PySem.W.Frag)(T:String)(r:V→List V→Hp→VK→Prop)(to:TE)(t:TA):TE:=λσ H Q=>to σ H λx H1=>Ig K T x H1∧t σ H1 λxs H2=>r x xs H2 Q
variable {o e:Expr} {es:List Expr} {to:TE} {t:TA} {name:Str} {apos aR:Pos} {T id:String} {r:V→List V→Hp→VK→Prop}
theorem Hy(pa:PlainAttrs T)(slot:Slot T name id)(Ey:typeOf (.builtin id)=pure (.type "method_descriptor"))(hm:Dc X id r)(ho:PE X o to)
  (df:attributeBase o name X.env (eval o X.env)=eval o X.env:=by rfl) (cG:(apos.endLine==aR.line)=true:=by rfl):PE X (.Call (.Attribute o name apos) [] [] aR) (Rg X.K T r to):=by
 intro pins s σ H Q I h;refine wpAny_Call_method0_late df cG (thn (ho pins s σ H _ I h) λv s1 ⟨x,H1,I1,r1,ty,q1⟩=>?_);obtain ⟨h1,h2⟩:=BM I1 r1 ty;exact ⟨T,id,pa,slot,Ey,h1,h2,Calls.callWith_builtin rfl (PySem.evalArgs_none (hm pins s1 σ H1 x [] v [] Q I1 r1 .nil q1))⟩
theorem tH(pa:PlainAttrs T)(slot:Slot T name id)(Ey:typeOf (.builtin id)=pure (.type "method_descriptor"))(hm:Dc X id r)(ho:PE X o to)(ha:PA X (e::es) t)
  (df:attributeBase o name X.env (eval o X.env)=eval o X.env:=by rfl)
  (g5:((backTo aR (starEach (e::es) X.env)).all (λx=>!x.1)&&(backToKw aR (keywordEach [] X.env)).all (λx=>x.1.isSome)
   &&decide ((e::es).length+([]:List Keyword).length+(if ([]:List Keyword).isEmpty then 0 else 1)<30))=true:=by rfl)
  (cG:(apos.endLine==aR.line)=true:=by rfl) (hs:starEach (e::es) X.env=(false,eval e X.env)::starEach es X.env:=by rfl) (dg:(backTo aR (starEach es X.env)).any (·.1)=false:=by rfl):
  PE X (.Call (.Attribute o name apos) (e::es) [] aR) (Xo X.K T r to t):=by
 intro pins s σ H Q I h;refine wpAny_Call_method_late df g5 cG rfl (thn (ho pins s σ H _ I h) λv s1 ⟨x,H1,I1,r1,ty,q1⟩=>?_);obtain ⟨h1,h2⟩:=BM I1 r1 ty;refine ⟨T,id,pa,slot,Ey,h1,h2,?_⟩;have hA:=ha aR pins s1 σ H1 _ I1 q1;rw [hs] at hA ⊢;refine Calls.callWith_builtin (by show (false|| (backTo aR (starEach es X.env)).any (·.1))=false;rw [dg]<;>rfl) (Calls.evalArgs_plain ?_)
 exact thn hA λus s2 ⟨vs,H2,I2,r2,q2⟩=>hm pins s2 σ H2 x vs v us Q I2 r1 r2 q2
end
def C9(X:Cx)(id:String)(r:V→List V→Hp→VK→Prop):Prop:=
 ∀(pins:List (Addr×Obj))(s:Shared)(σ:St)(H:Hp)(x:V)(xs:List V)(v:Value)(us:List Value)(Q:VK),Inv X pins σ H s→RelV x v→Vals xs us→r x xs H Q→
  wpAny (model X.prog X.w) X.A (call (.builtin id) (v::us)) (EP X pins σ Q) X.xe s
theorem Vals.one:∀{x:V}{us:List Value},Vals [x] us→∃u,us= [u]∧RelV x u
 |_,_, .cons r .nil=>⟨_,rfl,r⟩
theorem Vals.two:∀{x y:V}{us:List Value},Vals [x,y] us→∃u v,us= [u,v]∧RelV x u∧RelV y v
 |_,_,_, .cons r (.cons q .nil)=>⟨_,_,rfl,r,q⟩
theorem Vals.zero:∀{us:List Value},Vals [] us→us= []
 |_, .nil=>rfl
theorem Vals.dropLast{xs:List V}{us:List Value}(h:Vals xs us):Vals xs.dropLast us.dropLast:=by
 induction h with
 |nil=>exact .nil
 |cons r t ih=>
  cases t with
  |nil=>exact .nil
  |cons q t'=>exact .cons r ih
theorem Vals.reverse{xs:List V}{us:List Value}(h:Vals xs us):Vals xs.reverse us.reverse:=by
 induction h with
 |nil=>exact .nil
 |cons r t ih=>rw [uf,uf];exact Vals.append ih (.cons r .nil)
theorem Vals.rep{xs:List V}{us:List Value}(h:Vals xs us):∀k:Nat,Vals (List.replicate k xs).flatten (List.replicate k us).flatten
 |0=> .nil
 |k+1=>by
  rw [ud,ud,vM,vM];exact Vals.append h (Vals.rep h k)
theorem xZ{α:Type}(l:List α):l.eraseIdx (l.length-1)=l.dropLast:=by
 induction l with
 |nil=>rfl
 |cons a r ih=>
  cases r with
  |nil=>rfl
  |cons b r=>
   have e:(a::b::r).length-1=((b::r).length-1)+1:=by
    have h1:(a::b::r).length=r.length+2:=rfl;have h2:(b::r).length=r.length+1:=rfl;omega
   rw [e,List.eraseIdx_cons_succ,ih]
   all_goals rfl
theorem foldl_rep(its:List Value):∀(k:Nat)(acc:List Value),
  List.foldl (λx1 x2=>x1++x2) acc.toArray (List.replicate k its.toArray)=(acc++(List.replicate k its).flatten).toArray
 |0,acc=>by simp
 |k+1,acc=>by
  have e:acc.toArray++its.toArray=(acc++its).toArray:=by simp
  have e2:(acc++its)++(List.replicate k its).flatten=acc++(List.replicate (k+1) its).flatten:=by
   rw [ud,vM,mF]
  rw [←e2,←foldl_rep its k (acc++its),←e,ud,List.foldl_cons]
section
variable {X:Cx} {pins:List (Addr×Obj)} {σ:St} {H:Hp} {s:Shared} {l b:Addr} {xs ys zs:List V}
theorem Inv.Bm{its its':List Value}{n:Nat}{f:Array Value→Array Value}{t':Nat}(I:Inv X pins σ H s)(hH:H l=some (.lst xs))
  (e:s.heap.get? l=some {cls:= .type "list",data:= .seq its.toArray n}) (hf:f its.toArray=its'.toArray) (hv:Vals ys its') (hz:ys.length≤sizeLine):
  Inv X pins σ (upd H l (.lst ys)) {s with heap:=s.heap.update l (Obj.mapSeq f),toks:=t'}:=by
 have q:=PySem.IsL.update e f;rw [hf] at q;refine I.write (x:=l) (e:=l) (by rw [hH];exact trivial) (.inl rfl) (λb' u hb hu=>(Heap.get?_update_other s.heap (Obj.mapSeq f) (Ne.symm hb)).trans hu) ⟨_,q⟩ ?_
 exact ⟨hz,its',_,hv,q⟩
theorem Inv.Bl{its:List Value}{t':Nat}(I:Inv X pins σ H s)(hv:Vals ys its)(hz:ys.length≤sizeLine):
  Inv X pins σ (upd H s.heap.objs.size (.lst ys)) {s with heap:=s.heap.push {cls:= .type "list",data:= .seq its.toArray},toks:=t'}:=
 I.laid (λ_ _ q=>Heap.get?_push_of_some _ q) (bh _) ⟨hz,its,0,hv,Heap.get?_push_size _ rfl⟩
theorem Inv.fresh(I:Inv X pins σ H s):H s.heap.objs.size=none:=I.hok.fresh (bh _)
theorem Inv.mh(I:Inv X pins σ H s)(hH:H l=some (.lst xs)):xs.length≤sizeLine∧∃(its:List Value)(n:Nat),Vals xs its∧xs.length=its.length∧s.heap.get? l=some {cls:= .type "list",data:= .seq its.toArray n}:=by
 obtain ⟨z,its,n,r,e⟩:=I.hok l _ hH;exact ⟨z,its,n,r,r.length,e⟩
theorem vj{n:Nat}(h:n≤sizeLine):Builtin.List.listTooLong n=false:=by
 unfold Builtin.List.listTooLong;exact decide_eq_false (by omega)
end
section
variable {X:Cx}
def Fx:V→List V→Hp→VK→Prop:=λx vs H Q=>∃l xs y,x= .ref l∧vs= [y]∧H l=some (.lst xs)∧xs.length<sizeLine∧Q .aZ (upd H l (.lst (xs++ [y])))
theorem mZ:C9 X "list.append" Fx:=by
 intro pins s σ H x vs v us Q I rx rv h;obtain ⟨l,xs,y,rfl,rfl,hH,hz,q⟩:=h;cases rx;obtain ⟨u,rfl,ru⟩:=rv.one;obtain ⟨z,its,n,r,hl,e⟩:=I.mh hH;refine call_meets F.slot_list_append ⟨_,e,rfl⟩ F.entry_list_append (F.args_list_append_2 _ _) (PySem.list_append l its.toArray n u (by rw [b7];omega)) ⟨e,?_⟩
 refine ⟨.aZ,_,I.Bm (its':=its++ [u]) hH e (by simp) (r.append (.cons ru .nil)) ?_,rfl,q⟩
 rw [cj,uc];omega
def Fy:V→List V→Hp→VK→Prop:=λx vs H Q=>∃l b xs zs,x= .ref l∧vs= [.ref b]∧H l=some (.lst xs)∧H b=some (.lst zs)∧xs.length+zs.length≤sizeLine∧Q .aZ (upd H l (.lst (xs++zs)))
theorem Ae:C9 X "list.extend" Fy:=by
 intro pins s σ H x vs v us Q I rx rv h;obtain ⟨l,b,xs,zs,rfl,rfl,hH,hB,hz,q⟩:=h;cases rx;obtain ⟨u,rfl,ru⟩:=rv.one;cases ru;obtain ⟨z,its,n,r,hl,e⟩:=I.mh hH;obtain ⟨z2,qw,n2,r2,T9,e2⟩:=I.mh hB;have qS:its.toArray.size+qw.toArray.size≤sizeLine:=by rw [b7,b7];omega
 have zO:¬(!its.toArray.isEmpty&&Builtin.List.listTooLong (its.toArray.size+qw.toArray.size))=true:=by
  rw [vj qS,Bool.and_false];exact bY
 refine call_meets F.slot_list_extend ⟨_,e,rfl⟩ F.entry_list_extend (F.args_list_extend_2 _ _)
  (AutoSeq1.list_extend_list_list_0 l its.toArray n b qw.toArray n2 zO (by rw [b7];omega) (by omega)) ⟨e,e2,?_⟩
 refine ⟨.aZ,_,I.Bm (its':=its++qw) hH e (by simp) (r.append r2) ?_,rfl,q⟩
 rw [cj];omega
def QH:V→List V→Hp→VK→Prop:=λx vs H Q=>∃l xs y,x= .ref l∧vs= []∧H l=some (.lst xs)∧xs[xs.length-1]? =some y∧Q y (upd H l (.lst xs.dropLast))
theorem Hf:C9 X "list.pop" QH:=by
 intro pins s σ H x vs v us Q I rx rv h;obtain ⟨l,xs,y,rfl,rfl,hH,hy,q⟩:=h;cases rx;have Uq:=rv.zero;subst Uq;obtain ⟨z,its,n,r,hl,e⟩:=I.mh hH;obtain ⟨u,hu,ru⟩:=r.get hy
 have Ld:its.toArray[its.toArray.size-1]? =some u:=by
  show its.toArray[its.length-1]? =some u;rw [←pj,←hl];exact hu
 refine call_meets F.slot_list_pop ⟨_,e,rfl⟩ F.entry_list_pop (F.args_list_pop_1 _) (MeetsSeq.list_pop_last l its.toArray n u Ld (by rw [b7];omega)) ⟨e,?_⟩
 refine ⟨y,_,I.Bm (its':=its.dropLast) hH e ?_ r.dropLast ?_,ru,q⟩
 ·show its.toArray.eraseIdxIfInBounds (its.toArray.size-1)=its.dropLast.toArray
  rw [b7,List.eraseIdxIfInBounds_toArray,xZ]
 ·rw [List.length_dropLast]
  omega
def QC:R2:=λx y H Q=>∃l b xs zs,x= .ref l∧y= .ref b∧H l=some (.lst xs)∧H b=some (.lst zs)∧xs.length+zs.length≤sizeLine∧∀p,H p=none→Q (.ref p) (upd H p (.lst (xs++zs)))
theorem wV:OpR X (binaryOp .Add) QC:=by
 intro pins s σ H x y v u Q I rx ry h;obtain ⟨l,b,xs,zs,rfl,rfl,hH,hB,hz,q⟩:=h;cases rx;cases ry;obtain ⟨z,its,n,r,hl,e⟩:=I.mh hH;obtain ⟨z2,qw,n2,r2,T9,e2⟩:=I.mh hB;refine PySem.P.add_list e e2 ?_ (by rw [b7,b7];omega)
 have ea:its.toArray++qw.toArray=(its++qw).toArray:=by simp
 rw [ea];exact ⟨.ref _,_,I.Bl (t':=s.toks) (r.append r2) (by rw [cj];omega),rfl,q _ I.fresh⟩
def QI:R2:=λx y H Q=>∃l k xs,x= .ref l∧y= .int k∧H l=some (.lst xs)∧-(2^63)≤k∧k<2^63∧xs.length*k.toNat≤sizeLine∧
 ∀p,H p=none→Q (.ref p) (upd H p (.lst (List.replicate k.toNat xs).flatten))
theorem len_rep{α:Type}(xs:List α)(k:Nat):(List.replicate k xs).flatten.length=k*xs.length:=by
 induction k with
 |zero=>simp
 |succ k ih=>rw [ud,vM,cj,ih,Nat.succ_mul,Nat.add_comm]
theorem Hv:OpR X (binaryOp .Mult) QI:=by
 intro pins s σ H x y v u Q I rx ry h;obtain ⟨l,k,xs,rfl,rfl,hH,h1,h2,hz,q⟩:=h;cases rx;obtain ⟨t,rfl⟩:=ry;obtain ⟨z,its,n,r,hl,e⟩:=I.mh hH;have hlen:its.toArray.size*k.toNat≤sizeLine:=by rw [b7,←hl];exact hz
 have Om:¬its.toArray.size*k.toNat>(2^63-1) / 8:=by
  have:(sizeLine:Nat)≤(2^63-1) / 8:=by decide
  omega
 have En:¬(!Builtin.List.listFitsIndex k)=true:=by
  rw [fitsIndex_both h1 h2];exact bY
 have zO:¬Builtin.List.listTooLong (its.toArray.size*k.toNat)=true:=by
  rw [vj hlen];exact bY
 have OF:List.foldl (λx1 x2=>x1++x2) #[] (List.replicate (if its.toArray.isEmpty=true then 0 else k.toNat) its.toArray)=(List.replicate k.toNat its).flatten.toArray:=by
  have f0:∀m:Nat,List.foldl (λx1 x2=>x1++x2) #[] (List.replicate m its.toArray)=(List.replicate m its).flatten.toArray:=λm=>by
   have:=foldl_rep its m []
   rw [kZ] at this;exact this
  rw [f0];cases its with
  |nil=>simp
  |cons a r'=>rw [if_neg (by simp)]
 refine wpAny_binaryOp_repeat_ref (T:="list") (U:="int") (by decide) ⟨_,e,rfl⟩ (λs'=>typeIs_int s' k t) noFill_list_mul F.fills_int_mul F.slot_int_rmul repeat_list F.slot_int_index.lookup
  (call_meets F.slot_int_rmul (typeIs_int s k t) F.entry_int_rmul (F.args_int_rmul_2 _ _) (int___rmul___int_list k t l its.toArray n)
   ⟨e,rfl,⟨_,e,rfl⟩,call_meets F.slot_list_mul ⟨_,e,rfl⟩ F.entry_list_mul (F.args_list_mul_2 _ _) (AutoListH.list___mul___list_int_3 l its.toArray n k t En Om zO) ⟨e,?_⟩⟩)
 rw [OF];exact ⟨.ref _,_,I.Bl (t':=s.toks) (r.rep k.toNat) (by rw [len_rep,Nat.mul_comm];exact hz),rfl,q _ I.fresh⟩
end
section
variable {prog:Program} {w:World} {A:Around} {E:Value→Shared→Prop} {s:Shared}
end
section
variable {X:Cx}
end
end L2
namespace Mm
open PySem PySem.W PySem.Calls PyProof.Rows
theorem pN{P:Params}{h:Heap}:∀(ns:List Int)(vs:List Value),WellAll P h vs (ns.map WData.int)→IntsAre vs ns:=by
 intro ns
 induction ns with
 |nil=>
  intro vs w;rw [List.map_nil] at w;cases w;exact .nil
 |cons n ns ih=>
  intro vs w;rw [lg] at w;cases w with
  |cons a b=>
   cases a;exact .cons _ _ (ih _ b)
theorem AF{l:OpenLaw}{n:Nat}(hn:l.most=some n){P:Params}{h:Heap}{args:List WData}{vals:List Value}
  (Bi:l.row.toRowW.claim.pre args=true) (Lb:WellAll P h vals args):
  ∃a vs ns,vals= [Value.ref a]∧args= [WData.list (ns.map WData.int)]∧h.get? a=some {cls:= .type "list",data:= .seq vs.toArray}∧IntsAre vs ns∧ns.length≤n:=by
 have Um:WShape.hasAll [] args [.list .int]=true:=(pre_splitW Bi).1;have hc:l.pre.holds [] {args:=args}=true:=(pre_splitW Bi).2;obtain ⟨d,r,rfl,h1,h2⟩:=hasAllW_cons Um;obtain rfl:=hasAllW_nil h2;obtain ⟨xs,rfl,h3⟩:=hasW_list h1;obtain ⟨ns,rfl⟩:=items_int h3
 have hlen:ns.length≤n:=by
  unfold OpenLaw.pre at hc
  have h4:(WTm.not (.lt (.lit (.int (n:Int))) (.len (.arg 0)))).holds [] {args:= [.list (ns.map .int)]}=true:=by
   have h4:=(holds_andW hc).1;rw [hn] at h4;exact h4
  have h5:=condW_of h4 (w_not (w_lt w_lit (w_len_list (w_arg rfl))));rw [aJ] at h5;refine mG λq=>?_;have q':(n:Int)<((ns.length:Nat):Int):=by omega
  first
   | (rw [decide_eq_true q'] at h5;exact absurd h5 (by decide))
   | (simp at h5;omega)
 cases Lb with
 |cons w1 w2=>
  cases w2;cases w1 with
  |list ho Oj=>exact ⟨_,_,ns,rfl,rfl,ho,pN ns _ Oj,hlen⟩
theorem Av(l:OpenLaw)(args:List WData):l.row.toRowW.claim.post args (.bool true) args=true:=
 postW_of (r:=l.row.toRowW) (X:=(true==true))
  (show WShape.has [] (.bool true) .bool=true by first|rfl|decide|simp [WShape.has,WShape.arms,WShape.armsAll])
  (show (WTm.eq .res (.lit (.bool true))).value [] {args:=args,res:=some (.bool true),after:=args}=some (.bool (true==true)) from w_eq_bool (w_res rfl) w_lit) rfl
theorem vW{l:OpenLaw}{n:Nat}{q:Program}{loose:List Str}{XP:(Str→Option Value)→Heap→Prop}{YP:World→Heap→Prop}{d:DefRec}
  (hn:l.most=some n) (zL:d.params.defaults= [])
  (call:∀(w:World)(s₀ s₁:Shared)(mg mb:Str→Option Value)(fa:Addr)(o:Obj)(pm cd doc:Value)(a:Addr)(vs:List Value)(ns:List Int),
   Ground q loose [] XP w s₀ mg mb s₁.heap→YP w s₁.heap→
   s₁.heap.get? fa=some o→o.data= .func (docDef d.name d.params d.body d.scope pm cd doc)→s₁.heap.CodeRec cd d.name→mg d.name=some (.ref fa)→
   s₁.heap.get? a=some {cls:= .type "list",data:= .seq vs.toArray}→IntsAre vs ns→ns.length≤n→s₁.gens= #[]→
   codeAny (model l.prog w) callerA (.call (.ref fa) ⟨[.ref a],[]⟩) (λr s'=>r= .ok (.ret (.bool true))∧OldK s₁.heap s'.heap∧s'.os=s₁.os∧AllBare s'.gens) s₁):
  WalkO q loose XP YP l.row.toRowW d [] (λf vs=>PySem.call f vs):=by
 intro w s₀ s₁ mg mb G Y fa o pm cd doc dV kV ho hd fm hD zP hg args vals as Bi XH X6 Lb X5;obtain rfl:dV= .none:=Dflts.none hD zL;obtain rfl:kV= .none:=Dflts.noKw hD;obtain ⟨a,vs,ns,rfl,rfl,Et,hints,hlen⟩:=AF hn Bi Lb;refine enter_call (codeAny_mono (call w s₀ s₁ mg mb fa o pm cd doc a vs ns G Y ho (fd_plain hd) fm zP Et hints hlen hg) λr s' hq=>?_);obtain ⟨rfl,h2,h3,h4⟩:=hq;exact ⟨.inl ⟨.bool true, .bool true,[],rfl,λ_=>rfl, .bool true,Av l _,λ_=>⟨List.Pairwise.nil,λ_ hm=>(nomatch hm)⟩⟩,h2,h3,h4⟩
section
variable {prog:Program} {w:World} {A:Around} {E:Value→Shared→Prop} {s:Shared} {K:Frag}
end
end Mm
namespace L2
open PySem PySem.Spec PyProof.Rows
theorem jR:∀{vs:List Value}{ns:List Int},IntsAre vs ns→Vals (ns.map V.int) vs
 |_,_, .nil=> .nil
 |_,_, .cons n t h=> .cons ⟨t,rfl⟩ (jR h)
def Dd(H:Hp):Prop:=∀b,H b=none∨∃o xs,H b=some (.mP o (.lst xs))
theorem Cm{P:Program}{w:World}{K:PySem.W.Frag}{mg mb:Str→Option Value}{CX:pF}{k:Nat}{fa a:Addr}{fd:FuncData}{x:Str}{sp:Sp}{s₁:Shared}{vs:List Value}{ns:List Int}
  (KX:K.In s₁.heap) (wC:s₁.heap.Ns mainGlobals mg) (hb:s₁.heap.Ns builtinsNs mb) (TN:∀x:Str,x≠"__name__"→mb x=bootBuiltins x) (OD:s₁.heap.NoLimit) (hg:s₁.gens= #[])
  (ha:s₁.heap.get? a=some {cls:= .type "list",data:= .seq vs.toArray}) (hi:IntsAre vs ns) (hl:ns.length≤sizeLine) (hr:cv k callerA)
  (F:∀base:Heap,K.In base→base.Ns mainGlobals mg→FnOk P w K mg base CX k fa fd [x] sp) (KO:∀(s:Shared)(u:Value),BindsTo s fd ⟨[u],[]⟩ [(x,u)])
  (yh:∀H:Hp,Dd H→cc K H a (ns.map V.int)→sp [.ref a] H (λv _=>v= .bl true) λ_ _ _=>False)
  (Kx:∀H e s',CX [] H s₁ (λ_ _ _=>False) e s'→False):
  codeAny (model P w) callerA (.call (.ref fa) ⟨[.ref a],[]⟩) (λr s'=>r= .ok (.ret (.bool true))∧OldK s₁.heap s'.heap∧s'.os=s₁.os∧AllBare s'.gens) s₁:=by
 have rv:=jR hi;have Pp:=hi.length
 have core:∀H:Hp,Dd H→cc K H a (ns.map V.int)→gH P w H s₁.heap→(∀b,H b≠none→b=a)→(H a≠none→K.lookup a=none)→
   codeAny (model P w) callerA (.call (.ref fa) ⟨[.ref a],[]⟩) (λr s'=>r= .ok (.ret (.bool true))∧OldK s₁.heap s'.heap∧s'.os=s₁.os∧AllBare s'.gens) s₁:=by
  intro H hO hS hok hA hK;have xI:∀{b:Addr}{o:Obj},s₁.heap.get? b=some o→H b=none→(oe s₁.heap H).get? b=some o:=λe n=>Cd e n
  have EU:∀{b:Addr}{o:Obj}{es:Array DictEntry}{ep:Nat},s₁.heap.get? b=some o→o.data= .dict es ep→H b=none:=λ {b o es ep} e d=>by
   cases q:H b with
   |none=>rfl
   |some u=>
    have e':b=a:=hA b (by rw [q];simp)
    subst e';rw [ha] at e;cases e;have d':Data.seq vs.toArray _=Data.dict es ep:=d;cases d'
  have Hj:∀{b:Addr}{m:Str→Option Value},s₁.heap.Ns b m→(oe s₁.heap H).Ns b m:=λ {b m} ⟨o,es,ep,e,d,r⟩=>⟨o,es,ep,xI e (EU e d),d,r⟩
  have Og:K.In (oe s₁.heap H):=λb o e=>xI (KX b o e) (by
   cases q:H b with
   |none=>rfl
   |some u=>
    have e':b=a:=hA b (by rw [q];simp)
    subst e';rw [hK (by rw [q];simp)] at e;cases e)
  have hM:Mod K mg (oe s₁.heap H):=⟨Og,Hj wC,⟨mb,Hj hb,TN⟩,let ⟨mc,h1,h2⟩:=OD;⟨mc,Hj h1,h2⟩⟩;have e0:Env0 P w K mg (oe s₁.heap H) callerA [] s₁ H:=⟨rfl,hM,λb o e=>EY e,Nat.le_of_eq (zN _ _),trivial,λb hb=>absurd (show b∈([]:List Addr) from hb) (by simp),hok, .of_eq hg⟩
  refine codeAny_mono ((F _ Og (Hj wC)).run callerA [] s₁ H ⟨[.ref a],[]⟩ [.ref a] [.ref a] _ _ hr e0 (KO s₁ (.ref a)) (.cons rfl .nil) (yh H hO hS)) λr s' h=>?_;cases r with
  |error e=>exact (Kx H e s' h).elim
  |ok fl=>
   cases fl with
   |next=>exact False.elim h
   |brk=>exact False.elim h
   |cont=>exact False.elim h
   |ret u=>
    obtain ⟨v,H',os,bare,un,OJ,r',q⟩:=h;have q':v= .bl true:=q;subst q';obtain rfl:u=Value.bool true:=r';refine ⟨rfl,OldK.of_keep λb o e=>?_,os,bare⟩;cases q:H b with
    |none=>exact un.keep b o e q (by intro z;exact absurd (show b∈([]:List Addr) from z) (by simp)) (by simp)
    |some u=>
     rcases hO b with z| ⟨ob,xs,z⟩
     ·rw [q] at z;cases z
     ·have z2:=un.frzs b ob _ z
      obtain ⟨e1,_⟩:=hok b _ z;obtain ⟨e2,_⟩:=OJ b _ z2;rw [e] at e1;cases e1;exact e2
 cases hk:K.lookup a with
 |some o=>
  have e:=KX a o hk;rw [ha] at e;cases e;refine core (λ_=>none) (λ_=> .inl rfl) (.inr ⟨_,vs.toArray,_,hk,rfl,rfl,rfl,by rw [b7,Pp];exact hl,by simpa using rv⟩) (λb u z=>by have z':(none:Option HO)=some u:=z;cases z') (λb z=>absurd rfl z) λz=>absurd rfl z
 |none=>
  refine core (λb=>if b=a then some (.mP {cls:= .type "list",data:= .seq vs.toArray} (.lst (ns.map V.int))) else none) (λb=>?_) (.inl (.inr ⟨{cls:= .type "list",data:= .seq vs.toArray},if_pos rfl⟩)) (λb u z=>?_) (λb z=>?_) λ_=>hk
  ·by_cases hb:b=a
   ·exact .inr ⟨_,_,if_pos hb⟩
   ·exact .inl (if_neg hb)
  ·by_cases hb:b=a
   ·have z':=(if_pos hb).symm.trans z
    cases z';subst hb;exact ⟨ha,by rw [aJ];exact hl,vs,_,rv,ha⟩
   ·have z':=(if_neg hb).symm.trans z
    cases z'
  ·by_cases hb:b=a
   ·exact hb
   ·exact absurd (if_neg hb) z
theorem F8{l:PySem.W.OpenLaw}{n k:Nat}{q:Program}{loose:List Str}{XP:(Str→Option Value)→Heap→Prop}{YP:World→Heap→Prop}{d:DefRec}{K:Params→PySem.W.Frag}{CX:World→pF}{sp:World→Sp}{x:Str}
  (hn:l.most=some n) (GL:n≤sizeLine) (zL:d.params.defaults= []) (hr:cv k callerA)
  (hY:∀(w:World)(h:Heap),YP w h→(K w.params).In h)
  (F:∀(w:World)(mg:Str→Option Value)(fa:Addr)(h:Heap),(K w.params).In h→h.Ns mainGlobals mg→mg d.name=some (.ref fa)→
   ∃fd:FuncData,(∀(s:Shared)(u:Value),BindsTo s fd ⟨[u],[]⟩ [(x,u)])∧
    ∀base:Heap,(K w.params).In base→base.Ns mainGlobals mg→FnOk l.prog w (K w.params) mg base (CX w) k fa fd [x] (sp w))
  (yh:∀(w:World)(H:Hp)(a:Addr)(ns:List Int),ns.length≤n→Dd H→cc (K w.params) H a (ns.map V.int)→sp w [.ref a] H (λv _=>v= .bl true) λ_ _ _=>False)
  (Kx:∀(w:World)(H:Hp)(s:Shared)(e:Value)(s':Shared),CX w [] H s (λ_ _ _=>False) e s'→False):
  PySem.W.WalkO q loose XP YP l.row.toRowW d [] (λf vs=>PySem.call f vs):=by
 refine Mm.vW hn zL λw s₀ s₁ mg mb fa o pm cd doc a vs ns G Y ho hd fm zP Et hints hlen hg=>?_;have KX:=hY w _ Y;obtain ⟨fd,hb,hF⟩:=F w mg fa _ KX G.T.g zP;exact Cm KX G.T.g G.T.b G.T.builtins G.T.nolimit hg Et hints (j9 hlen GL) hr hF hb (λH hO hS=>yh w H a ns hlen hO hS) λH e s'=>Kx w H s₁ e s'
def inClass(s:Stmt)(j:Nat):Stmt:=match s with
 | .ClassDef _ _ _ body _ _ _ _ _ _ _=>body.getD j (.Pass ⟨0,0,0,0⟩)
 |_=> .Pass ⟨0,0,0,0⟩
def gY(s:Stmt):Arguments:=match s with
 | .FunctionDef _ a _ _ _ _ _ _ _ _=>a
 |_=>{posonlyargs:= [],args:= [],vararg:=none,kwonlyargs:= [],kw_defaults:= [],kwarg:=none,defaults:= []}
def eS(s:Stmt):List Stmt:=match s with
 | .FunctionDef _ _ b _ _ _ _ _ _ _=>b
 |_=> []
def au(s:Stmt):Scope:=match s with
 | .FunctionDef _ _ _ _ _ _ sc _ _ _=>sc
 |_=>{kind:= .function,names:= [],isGenerator:=false,isCoroutine:=false}
abbrev cE:pF:=λ_ _ _ _ _ _=>False
abbrev E0:XK:=λ_ _ _=>False
theorem wW{X:Cx}:Passes cE X E0:=λ_ _ _ _ _ _ _ h=>h.elim
structure um (K:PySem.W.Frag) (x qual:Str) (st:Stmt) (f:Addr) (fd:FuncData):Prop where
 ex:∃(oc:Value)(od:Option Addr)(kV doc pm:Value)(an:Option Addr)(bz ct:Value)(yC:Array (Option Value)),
  fd=PySem.W.fnOf x qual (gY st) (eS st) (au st) .none kV doc pm an bz ct∧K.lookup f=some ⟨oc,od, .func fd,yC⟩∧PySem.W.codeIn K bz qual=true
 kp:PySem.W.keepIn K (.ref f)=true
section
variable {P:Program} {w:World} {K:PySem.W.Frag} {mg:Str→Option Value} {base:Heap}
theorem um.ok{x qual:Str}{st:Stmt}{f:Addr}{fd:FuncData}{N ps:List Str}{k:Nat}{sp:Sp}(F:um K x qual st f fd)(S:aH N ps (au st))(len:∀vs H Q E,sp vs H Q E→vs.length=ps.length)
  (mS:∀(bz:Value)(A:Around)(outer:List Env)(s:Shared)(H:Hp)(vs:List V)(Q:VK)(E:XK),cv k (A.deeper (envOfC qual (au st) s.heap.objs.size f bz))→sp vs H Q E→
   ∃t,ko (qr cE P w K mg base N qual (au st) f bz A outer s H E).iN (eS st) t∧t {nx:=λ_ H'=>Q .aZ H',rt:=Q} (start N vs) H):FnOk P w K mg base cE (k+1) f fd ps sp:=by
 obtain ⟨oc,od,kV,doc,pm,an,bz,ct,yC,rfl,lk,fm⟩:=F.ex;refine Kr lk fm S len λA outer s H vs Q E hr yh=>?_;obtain ⟨t,h,q⟩:=mS bz A outer s H vs Q E hr yh;exact ⟨t,h.iN,q⟩
theorem um.binds{x qual:Str}{st:Stmt}{f:Addr}{fd:FuncData}{ps:List Str}(F:um K x qual st f fd)
  (h:∀(kV doc pm:Value)(an:Option Addr)(bz ct:Value)(us:List Value),us.length=ps.length→bindArgs (PySem.W.fnOf x qual (gY st) (eS st) (au st) .none kV doc pm an bz ct) ⟨us,[]⟩=pure (ps.zip us)):Binds K fd ps []:=by
 obtain ⟨oc,od,kV,doc,pm,an,bz,ct,yC,rfl,lk,fm⟩:=F.ex;exact .all (h kV doc pm an bz ct)
theorem n6{x qual:Str}{st:Stmt}{f:Addr}{oc:Value}{od an:Option Addr}{yC:Array (Option Value)}{kV doc pm bz ct:Value}(l:K.lookup f=some ⟨oc,od, .func (PySem.W.fnOf x qual (gY st) (eS st) (au st) .none kV doc pm an bz ct),yC⟩)
  (c:PySem.W.codeIn K bz qual=true) (k:PySem.W.keepIn K (.ref f)=true):um K x qual st f (PySem.W.fnOf x qual (gY st) (eS st) (au st) .none kV doc pm an bz ct):=⟨⟨oc,od,kV,doc,pm,an,bz,ct,yC,rfl,l,c⟩,k⟩
end
theorem jP{n:Nat}(h:n≤1000):n<sizeLine:=Nat.lt_of_le_of_lt h (by decide)
section
variable {X:Cx}
theorem pv(i:Nat){x:Str}{pos:Pos}(hN:X.N[i]? =some x:=by rfl)(hv:qM X.env.scope x:=by first|exact Or.inl rfl|exact Or.inr (Or.inl rfl) |exact Or.inr (Or.inr rfl))(hd:(x==("__debug__":Str))=false:=by decide)
  (fm:(x==("__classdict__":Str))=false:=by decide):PE X (.Name x pos) (Jw i):=Bx hN hv hd fm
end
theorem cy{A B:Prop}(h:B):if false=true then A else B:=by
 rw [if_neg bY];exact h
theorem cD{A B:Prop}(h:A):if true=true then A else B:=by
 rw [if_pos rfl];exact h
def aG(H H':Hp):Prop:=∀b o,H b=some o→H' b=some o
theorem aG.refl(H:Hp):aG H H:=λ_ _ h=>h
theorem aG.trans{H H1 H2:Hp}(a:aG H H1)(b:aG H1 H2):aG H H2:=λc o h=>b c o (a c o h)
theorem aG.free{H H':Hp}(e:aG H H'){l:Addr}(h:H' l=Option.none):H l=Option.none:=by
 cases q:H l with
 |none=>rfl
 |some o=>
  rw [e l o q] at h;cases h
def gv(env:Env):List (Str×NameKind)→List (Str×Addr)→List (Str×Addr)
 | [],cs=>cs
 | (n,k)::r,cs=>if k==NameKind.free then gv env r ((n,(env.cells.lookup n).getD 0)::cs) else gv env r cs
theorem fO{scope:Scope}{env:Env}(h:∀x∈scope.names,x.2= .free→∃c,env.cells.lookup x.1=some c):closureFor scope env=pure (gv env scope.names []):=by
 simp only [closureFor]
 have go:∀(names:List (Str×NameKind))(cs:List (Str×Addr)),(∀x∈names,x.2= .free→∃c,env.cells.lookup x.1=some c)→
   (forIn names cs λx __s=>if (x.snd==NameKind.free)=true then (do let a ←cellOf env x.fst;pure (ForInStep.yield ((x.fst,a)::__s))) else pure (ForInStep.yield __s))=(pure (gv env names cs):Sem _):=by
  intro names
  induction names with
  |nil=>intro cs _;rfl
  |cons x r ih=>
   intro cs h;obtain ⟨n,k⟩:=x;rw [List.forIn_cons,gv];have hr:=λcs=>ih cs λy hy=>h y (bV _ hy);cases hk:k==NameKind.free with
   |false=>
    simp only [hk,vK,if_false];exact hr cs
   |true=>
    have lU:k= .free:=by simpa using hk
    obtain ⟨c,hc⟩:=h (n,k) bP lU;simp only at hc;simp only [if_true,cellOf,hc];exact hr _
 rw [go _ _ h];rfl
theorem ed{env:Env}:∀(names:List (Str×NameKind))(cs:List (Str×Addr)),(∀x∈names,x.2= .free→∃c,env.cells.lookup x.1=some c)→(∀x c,cs.lookup x=some c→env.cells.lookup x=some c)→
  ∀x c,(gv env names cs).lookup x=some c→env.cells.lookup x=some c
 | [],cs,_,hc=>hc
 | (n,k)::r,cs,h,hc=>by
  rw [gv]
  split
  ·rename_i hk
   refine ed r _ (λy hy=>h y (bV _ hy)) λx c e=>?_;obtain ⟨c',sL⟩:=h (n,k) bP (by simpa using hk)
   rw [pA] at e
   split at e
   ·rename_i hx
    have Lc:x=n:=by simpa using hx
    subst Lc;simp only at sL;rw [sL] at e ⊢;exact e
   ·exact hc x c e
  ·exact ed r cs (λy hy=>h y (bV _ hy)) hc
theorem lA{env:Env}:∀(names:List (Str×NameKind))(cs:List (Str×Addr))(x:Str),((x,NameKind.free)∈names∨∃c,cs.lookup x=some c)→∃c,(gv env names cs).lookup x=some c
 | [],cs,x,h=>by
  rcases h with h|h
  ·cases h
  ·exact h
 | (n,k)::r,cs,x,h=>by
  rw [gv]
  split
  ·rename_i hk
   refine lA r _ x ?_
   by_cases e:x=n
   ·subst e;exact .inr ⟨(env.cells.lookup x).getD 0,by simp [pA]⟩
   ·have ne:(x==n)=false:=by simpa using e
    rcases h with h| ⟨c,h⟩
    ·rcases bQ.mp h with z|z
     ·cases z;exact absurd rfl e
     ·exact .inl z
    ·exact .inr ⟨c,by rw [pA,ne];exact h⟩
  ·rename_i hk
   refine lA r cs x ?_
   rcases h with h|h
   ·rcases bQ.mp h with z|z
    ·cases z;exact absurd rfl hk
    ·exact .inl z
   ·exact .inr h
def j0(src:List (Option Nat))(σ:St):St:=src.map λo=>o.bind λi=>(σ[i]?).bind id
def cF(scope:Scope)(XN:List Str):List (Option Nat)→List Str→Prop
 | [],[]=>True
 |none::r,_::n=>cF scope XN r n
 |some i::r,x::n=>XN[i]? =some x∧scope.names.lookup x=some .free∧cF scope XN r n
 |_,_=>False
theorem cF.len{scope:Scope}{XN:List Str}:∀{src:List (Option Nat)}{NC:List Str},cF scope XN src NC→src.length=NC.length
 | [],[],_=>rfl
 |none::r,_::n,h=>by have:=cF.len (src:=r) (NC:=n) h;simp [this]
 |some i::r,_::n,h=>by have:=cF.len (src:=r) (NC:=n) h.2.2;simp [this]
 | [],_::_,h=>h.elim
 |none::_,[],h=>h.elim
 |some _::_,[],h=>h.elim
theorem cF.at{scope:Scope}{XN:List Str}:∀{src:List (Option Nat)}{NC:List Str}{j i:Nat}{x:Str},cF scope XN src NC→src[j]? =some (some i)→NC[j]? =some x→XN[i]? =some x∧scope.names.lookup x=some .free
 | [],[],_,_,_,_,h,_=>by simp at h
 |none::r,_::n,0,_,_,_,h,_=>by simp at h
 |none::r,_::n,j+1,i,x,h,h1,h2=>cF.at (src:=r) (NC:=n) (j:=j) h (by simpa using h1) (by simpa using h2)
 |some k::r,y::n,0,i,x,h,h1,h2=>by
  have e1:k=i:=by simpa using h1
  have e2:y=x:=by simpa using h2
  subst e1 e2;exact ⟨h.1,h.2.1⟩
 |some k::r,_::n,j+1,i,x,h,h1,h2=>cF.at (src:=r) (NC:=n) (j:=j) h.2.2 (by simpa using h1) (by simpa using h2)
 | [],_::_,_,_,_,h,_,_=>h.elim
 |none::_,[],_,_,_,h,_,_=>h.elim
 |some _::_,[],_,_,_,h,_,_=>h.elim
structure bU (X:Cx) (scope:Scope):Prop where
 kind:scope.kind= .function
 names:∀x∈scope.names,x.2= .local→scope.names.lookup x.1=some .local
 nocell:∀x∈scope.names,x.2≠ .cell
 free:∀x∈scope.names,x.2= .free→X.env.kindOf x.1=some .cell∨X.env.kindOf x.1=some .free
theorem gm{env:Env}:∀(names:List (Str×NameKind))(x:Str),
  (names.map λ(n,k)=>if (k==NameKind.free&&env.scope.kind== .function&&env.kindOf n==some .cell) then (n,NameKind.cell) else (n,k)).lookup x=
   (names.lookup x).map λk=>if (k==NameKind.free&&env.scope.kind== .function&&env.kindOf x==some .cell) then NameKind.cell else k
 | [],_=>rfl
 | (n,k)::r,x=>by
  have ih:=gm (env:=env) r x;show List.lookup x ((if (k==NameKind.free&&env.scope.kind== .function&&env.kindOf n==some .cell)=true then (n,NameKind.cell) else (n,k))::_)=_;cases hx:x==n with
  |true=>
   have e:x=n:=by simpa using hx
   subst e
   by_cases hc:(k==NameKind.free&&env.scope.kind== .function&&env.kindOf x==some .cell)=true
   ·rw [if_pos hc,pA,pA]
    simp only [hx];show some NameKind.cell=some (if _ then _ else _);rw [if_pos hc]
   ·rw [if_neg hc,pA,pA]
    simp only [hx];show some k=some (if _ then _ else _);rw [if_neg hc]
  |false=>
   by_cases hc:(k==NameKind.free&&env.scope.kind== .function&&env.kindOf n==some .cell)=true
   ·rw [if_pos hc];simp only [pA,hx];exact ih
   ·rw [if_neg hc];simp only [pA,hx];exact ih
theorem mem_lookup{names:List (Str×NameKind)}{x:Str}{k:NameKind}(h:names.lookup x=some k):(x,k)∈names:=PySem.mem_of_lookup h
def b0(X:Cx)(scope:Scope)(NC:List Str)(ex:List Addr)(s:Shared)(H:Hp):Cx:=
 {X with N:=NC,s₀:=s,H₀:=H,env:=compEnvC scope (gv X.env scope.names []) s.heap.objs.size X.env,outer:=X.stack,stack:=X.stack,ex:=ex,fn:=λ_=>false,pn:= [],xe:=λ_ _=>False}
section
variable {X:Cx} {pins:List (Addr×Obj)} {σ:St} {H:Hp} {s:Shared} {scope:Scope} {NC:List Str} {ex:List Addr} {src:List (Option Nat)}
theorem bU.cells(c:bU X scope)(ok:X.Ok):∀x∈scope.names,x.2= .free→∃c,X.env.cells.lookup x.1=some c:=λx hx e=>ok.has x.1 (c.free x hx e)
theorem bU.Ln(c:bU X scope){C:Addr}{x:Str}{k:NameKind}(h:(compEnvC scope (gv X.env scope.names []) C X.env).kindOf x=some k)(hk:k= .cell∨k= .free):scope.names.lookup x=some .free:=by
 have h':(relabel scope X.env).names.lookup x=some k:=h;unfold relabel at h';rw [gm] at h';cases e:scope.names.lookup x with
 |none=>rw [e] at h';cases h'
 |some k'=>
  have nc:=c.nocell _ (mem_lookup e);rw [e] at h';have h2:(if (k'==NameKind.free&&X.env.scope.kind== .function&&X.env.kindOf x==some .cell) then NameKind.cell else k')=k:=Option.some.inj h'
  by_cases hf:k'= .free
  ·rw [hf]
  ·have hb:(k'==NameKind.free)=false:=by simpa using hf
   rw [hb,t7,t7,if_neg bY] at h2
   rcases hk with z|z
   ·rw [h2] at nc;exact absurd z nc
   ·rw [h2] at hf;exact absurd z hf
theorem Dz(I:Inv X pins σ H s)(c:bU X scope)(hf:∀b∈ex,eF X pins H b)(b4:∀b∈ex,b<s.heap.objs.size):(b0 X scope NC ex s H).Ok where
 mod:=I.ok.mod
 kind:=c.kind
 glob:=I.ok.glob
 blt:=I.ok.blt
 above:=bh _
 inj:=λx y d h1 h2=>I.ok.inj x y d (ed _ _ (c.cells I.ok) (λ_ _ z=>by cases z) x d h1) (ed _ _ (c.cells I.ok) (λ_ _ z=>by cases z) y d h2)
 has:=λx hx=>lA _ _ x (.inl (mem_lookup (by rcases hx with h|h<;>exact c.Ln h (by simp))))
 cab:=λ_ _ z=>by cases z
 hd:=I.ok.hd
 frames:=I.ok.frames
 stk:= .inl rfl
 exf:=λb hb=>⟨bZ (b4 b hb),λx d e=>(hf b hb).2.2.2.2.1 x d (ed _ _ (c.cells I.ok) (λ_ _ z=>by cases z) x d e)⟩
 bs:=I.bs
 bsz:=j9 I.ok.bsz I.sz
 noex:=λb o e hb=>by
  rcases (hf b hb).2.2.2.1 with z|z
  ·exact I.ok.noex b o e z
  ·exact absurd (fI (Heap.lt_size e) (j9 I.ok.bsz z)) (fB _)
 exfs:=λb hb z=>(bQ.mp (I.xh b z)).elim (hf b hb).2.1 (hf b hb).2.2.1
 funs:=I.stack
 frf:=I.yZ
theorem uK{h1:Heap}{tk:Nat}{ob:Obj}(I:Inv X pins σ H s)(c:bU X scope)(dF:cF scope X.N src NC)(hf:∀b∈ex,eF X pins H b)(b4:∀b∈ex,b<s.heap.objs.size)
  (wC:h1.Ns s.heap.objs.size (λ_=>none)) (wG:Heap.SameBut s.heap.objs.size (s.heap.push ob) h1):
  Inv (b0 X scope NC ex s H) [] (j0 src σ) H {s with heap:=h1,toks:=tk}:=by
 have old:∀b o,s.heap.get? b=some o→h1.get? b=some o:=λb o e=>wG.extBut b o (bZ (Heap.lt_size e)) (Heap.get?_push_of_some _ e);have cl:∀x d,(gv X.env scope.names []).lookup x=some d→X.env.cells.lookup x=some d:=λx d=>ed _ _ (c.cells I.ok) (λ_ _ z=>by cases z) x d
 have cellK:∀d v,s.heap.IsCell d v→h1.IsCell d v:=λd v ⟨o,ho,hd⟩=>⟨o,old d o ho,hd⟩;refine ⟨Dz I c hf b4,rfl,I.bare,Un.kept old,⟨_,wC,λj x v e1 e2 e3=>?_⟩,λx d e=>?_,I.hok.fresh (bh _),λx d e=>I.freeC x d (cl x d e),λp hp=>absurd (show p∈([]:List (Addr×Obj)) from hp) (by simp),I.hok.kept old,?_⟩
 ·have ij:(j0 src σ)[j]? =some (some v):=e2
  unfold j0 at ij;rw [eJ] at ij;cases ej:src[j]? with
  |none=>rw [ej] at ij;cases ij
  |some o=>
   rw [ej] at ij;cases o with
   |none=>cases ij
   |some i=>
    have e4:(σ[i]?).bind id=some v:=Option.some.inj ij
    have e5:σ[i]? =some (some v):=by
     cases q:σ[i]? with
     |none=>rw [q] at e4;cases e4
     |some z=>rw [q] at e4;exact congrArg some e4
    obtain ⟨hN,KZ⟩:=dF.at ej e1;have hk:=c.free _ (mem_lookup KZ) rfl;obtain ⟨m,hn,hl⟩:=I.loc;obtain ⟨u,r,l⟩:=hl i x v hN e5 (hk.elim (λz=> .inr (.inl z)) (λz=> .inr (.inr z)));refine ⟨u,r, .inr ⟨?_,?_⟩⟩
    ·show (relabel scope X.env).names.lookup x=_∨(relabel scope X.env).names.lookup x=_
     unfold relabel;rw [gm,KZ]
     by_cases z:(NameKind.free==NameKind.free&&X.env.scope.kind== .function&&X.env.kindOf x==some .cell)=true
     ·left;simp only [Option.map_some,z,if_true]
     ·right;simp only [Option.map_some,z];rfl
    ·obtain ⟨d,hd⟩:=lA (env:=X.env) scope.names [] x (.inl (mem_lookup KZ))
     refine ⟨d,hd,?_⟩
     rcases l with ⟨l,_⟩ | ⟨_,d',e,z⟩
     ·exfalso;rcases hk with z|z<;>(rw [l] at z;cases z)
     ·rw [cl x d hd] at e;cases e;exact cellK d _ z
 ·obtain ⟨v,z⟩:=I.cell x d (cl x d e)
  exact ⟨v,cellK d v z⟩
 ·show (j0 src σ).length=NC.length
  unfold j0;rw [aJ];exact dF.len
theorem comp_back{H':Hp}{av:St}{s':Shared}{h2:Heap}{wX:List (Addr×Obj)}(I:Inv X pins σ H s)(hf:∀b∈ex,eF X pins H b)(J:Inv (b0 X scope NC ex s H) wX av H' s')
  (wG:Heap.SameBut s.heap.objs.size s'.heap h2):Inv X pins σ H' {s' with heap:=h2}:=by
 have up:∀b o,b≠s.heap.objs.size→s'.heap.get? b=some o→h2.get? b=some o:=λb o hb e=>wG.extBut b o hb e;have ne:∀b o,s.heap.get? b=some o→b≠s.heap.objs.size:=λb o e=>bZ (Heap.lt_size e);have u:=J.base;refine I.JF (ch:=ex) (show s'.os=s.os from J.os) ⟨λb o e n hb hx=>up b o (ne b o e) (u.keep b o e n hb hx),λb o e n hb hx=>?_,u.free,λb o e hx=>?_,u.tups,u.frzs,u.tbls⟩ ?_ J.bare λb hb=>?_
 ·obtain ⟨sl,q⟩:=u.slot b o e n hb hx
  exact ⟨sl,up b _ (ne b o e) q⟩
 ·obtain ⟨o',q⟩:=u.there b o e hx
  exact ⟨o',up b o' (ne b o e) q⟩
 ·intro b o e
  have nC:∀b o,H' b=some o→b≠s.heap.objs.size:=λb o e z=>by
   have:=J.free
   rw [z] at e;have e':H' s.heap.objs.size=none:=this;rw [e'] at e;cases e
  refine (J.hok b o e).oU (λd v hd q=>up d v ?_ q) (λ_ q=>q) λ_ _ q=>q
  rcases hd with z|z
  ·rw [z];exact nC b o e
  ·exact nC d _ z
 ·obtain ⟨_,f1,_,f3,f4,f5⟩:=hf b hb
  exact ⟨f3,f1,f4,f5⟩
end
def kq(X:Cx)(ifs:List Expr)(t:TT):Prop:=
 ∀(pins:List (Addr×Obj))(s:Shared)(σ:St)(H:Hp)(Q:Bool→Hp→Prop),Inv X pins σ H s→t σ H Q→
  wpAny (model X.prog X.w) X.A (forIn ifs true λc r=>if r=true then do let ok ←isTrue c X.env (eval c X.env);pure (ForInStep.yield ok) else pure (ForInStep.yield r)) (TP X pins σ Q) X.xe s
def Ru:TT:=λ_ H Q=>Q true H
theorem Fs{X:Cx}:kq X [] Ru:=λ_ _ _ H _ I h=>wpAny_tests_nil ⟨H,I,h⟩
theorem Ft{X:Cx}{c:Expr}{t:TT}(h:PT X c t):kq X [c] t:=λpins s σ H Q I q=>wpAny_tests_one (h pins s σ H Q I q)
def RK(J:It)(g:TG)(tt:TT)(te:TE)(D:Addr)(Q:VK)(σ:St)(H:Hp):Prop:=
 ∃W:Nat→Nat→St→Hp→Prop,(∃m,W 0 m σ H)∧∀i m dE H2,W i m dE H2→
  (J.stop i H2∧Q (.ref D) H2)∨
  (J.go i H2∧∃N:St→Hp→Prop,(∀av H',N av H'→∃m',m'<m∧W (i+1) m' av H')∧∀x H3,J.yld i H2 x H3→g x dE H3 λdO H4=>tt dO H4 λb H5=>
   if b=true then te dO H5 λv H6=>∃ys,H6 D=some (.lst ys)∧ys.length<sizeLine∧N dO (upd H6 D (.lst (ys++ [v]))) else N dO H5)
def H0(wi:TI)(g:TG)(tt:TT)(te:TE)(src:List (Option Nat)):TE:=λσ H Q=>wi σ H λJ H1=>∀D,H1 D=none→RK J g tt te D Q (j0 src σ) (upd H1 D (.lst []))
section
variable {X:Cx} {elt iter tg:Expr} {ifs:List Expr} {scope:Scope} {pos:Pos} {wi:TI} {g:TG} {tt:TT} {te:TE} {src:List (Option Nat)} {NC:List Str}
theorem qo{pins:List (Addr×Obj)}{σ:St}{s2:Shared}{H2:Hp}{it:Addr}{fp:List Addr}{tn:Nat→Heap→Prop}{J:It}{RR:Value→Addr→Result→Shared→Prop}{E:Value→Shared→Prop}{Q:VK}
  (hc:X.calm=true) (c:bU X scope) (dF:cF scope X.N src NC) (I2:Inv X pins σ H2 s2) (T:Turn X.prog X.w X.K tg J fp it tn) (nh:tn 0 s2.heap) (f2:∀b∈fp,eF X pins H2 b)
  (hg:∀s H,PG (b0 X scope NC fp s H) tg g) (ht:∀s H,kq (b0 X scope NC fp s H) ifs tt) (he:∀s H,PE (b0 X scope NC fp s H) elt te)
  (hW:∀D,H2 D=none→∃W:Nat→Nat→St→Hp→Prop,(∃m,W 0 m (j0 src σ) (upd H2 D (.lst [])))∧∀i m dE H2,W i m dE H2→
   (J.stop i H2∧Q (.ref D) H2)∨
   (J.go i H2∧∃N:St→Hp→Prop,(∀av H',N av H'→∃m',m'<m∧W (i+1) m' av H')∧∀x H3,J.yld i H2 x H3→g x dE H3 λdO H4=>tt dO H4 λb H5=>
    if b=true then te dO H5 λv H6=>∃ys,H6 D=some (.lst ys)∧ys.length<sizeLine∧N dO (upd H6 D (.lst (ys++ [v]))) else N dO H5))
  (KA:∀D s3 H3 av H' s',Inv X pins σ H3 s3→(∀b∈fp,eF X pins H3 b)→Inv (b0 X scope NC fp s3 H3) [] av H' s'→Q (.ref D) H'→RR (.ref D) s3.heap.objs.size (.ok .next) s'):
  wpAny (model X.prog X.w) X.A (newList []) (λacc F0=>wpAny (model X.prog X.w) X.A (newFunctionEnv scope X.env.globals (gv X.env scope.names []) [] X.env.qual none .none (some X.env)) (λky tX=>
   codeAny (model X.prog X.w) X.A (.compStart (.ListComp elt [⟨tg,iter,ifs,0⟩] scope pos) 0 (.ref it) acc {ky with scope:=relabel scope X.env}) (RR acc ky.locals) tX) E F0) E s2:=by
 obtain ⟨W,⟨m0,w0⟩,turn⟩:=hW s2.heap.objs.size I2.fresh;have I3:Inv X pins σ (upd H2 s2.heap.objs.size (.lst [])) {s2 with heap:=s2.heap.push {cls:= .type "list",data:= .seq ([]:List Value).toArray}}:=I2.Bl (its:= []) (t':=s2.toks) .nil (b9 _)
 have Cs:∀b∈fp,b<s2.heap.objs.size:=λb hb=>by
  obtain ⟨o,e,_⟩:=T.obj _ _ nh b hb;exact Heap.lt_size e
 have f3:∀b∈fp,eF X pins (upd H2 s2.heap.objs.size (.lst [])) b:=λb hb=>⟨by rw [aC (bZ (Cs b hb))];exact (f2 b hb).1,(f2 b hb).2⟩
 refine wpAny_newObj_type ?_
 suffices key:∀s3:Shared,Inv X pins σ (upd H2 s2.heap.objs.size (.lst [])) s3→(∀b o,s2.heap.get? b=some o→s3.heap.get? b=some o)→
   wpAny (model X.prog X.w) X.A (newFunctionEnv scope X.env.globals (gv X.env scope.names []) [] X.env.qual none .none (some X.env)) (λky tX=>
    codeAny (model X.prog X.w) X.A (.compStart (.ListComp elt [⟨tg,iter,ifs,0⟩] scope pos) 0 (.ref it) (.ref s2.heap.objs.size) {ky with scope:=relabel scope X.env}) (RR (.ref s2.heap.objs.size) ky.locals) tX) E s3 from
  key _ I3 λb o e=>Heap.get?_push_of_some _ e
 intro s3 I3 Mf;have yX:tn 0 s3.heap:=T.keep _ _ _ nh λb _ o e=>Mf b o e
 have Ab:∀b∈fp,b<s3.heap.objs.size:=λb hb=>by
  obtain ⟨o,e,_⟩:=T.obj _ _ yX b hb;exact Heap.lt_size e
 generalize TC:upd H2 s2.heap.objs.size (.lst [])=H3 at I3 f3 w0;refine wpAny_newFunctionEnv c.nocell (by intro y hy;simp at hy) (λh1 wC wG=>?_) c.kind
 have I4:=uK (src:=src) (NC:=NC) (ex:=fp) (tk:=s3.toks+([]:List (Str×Value)).length) I3 c dF f3 Ab wC wG;have FX:tn 0 h1:=T.keep _ _ _ yX λb hb o e=>wG.extBut b o (bZ (Ab b hb)) (Heap.get?_push_of_some _ e);generalize hX:b0 X scope NC fp s3 H3=XC at I4
 have stat:∀{H':Hp},(∀b∈fp,H' b=none)→∀b∈fp,eF XC [] H' b:=λ {H'} hn b hb=>by
  subst hX;refine ⟨hn b hb,bZ (Ab b hb),λz=>?_, .inl hb,λx d e=>?_,λp hp=>absurd (show p∈([]:List (Addr×Obj)) from hp) (by simp)⟩
  ·exact (I4.ok.exfs b hb) z
  ·exact (I4.ok.exf b hb).2 x d e
 have loop:codeAny (model X.prog X.w) X.A (.compLoop (.ListComp elt [⟨tg,iter,ifs,0⟩] scope pos) 0 (.ref it) (.ref s2.heap.objs.size) XC.env) (RR (.ref s2.heap.objs.size) s3.heap.objs.size)
   {s3 with heap:=h1,toks:=s3.toks+([]:List (Str×Value)).length}:=by
  refine codeAny_loop rfl (λn s'=>∃i av H',Inv XC [] av H' s'∧tn i s'.heap∧(∀b∈fp,H' b=none)∧W i n av H') (λn s' hI=>?_) m0 ⟨0,_,_,I4,FX,λb hb=>(f3 b hb).1,w0⟩;obtain ⟨i,av,H',I5,qZ,ux,w5⟩:=hI;show wpAny _ X.A ((compTurn (.ListComp elt [⟨tg,iter,ifs,0⟩] scope pos) 0 (.ref it) (.ref s2.heap.objs.size) XC.env).onRaise (λx=>do noteFrame x XC.env;theTreesLotGoes x)) _ _ s'
  refine wpAny_noted ?_;rw [compTurn_list]
  have iN:∀{α:Type}{t:Sem α}{Q:α→Shared→Prop}{E:Value→Shared→Prop}{s:Shared},wpAny (model XC.prog XC.w) XC.A t Q XC.xe s→wpAny (model X.prog X.w) X.A t Q E s:=λ {α t Q E s} h=>by
   subst hX;exact wpAny_mono h (λ_ _ q=>q) λ_ _ f=>f.elim
  have B9:XC.calm=true:=by subst hX;exact hc
  have eP:XC.prog=X.prog:=by subst hX;rfl
  have ew:XC.w=X.w:=by subst hX;rfl
  have eK:XC.K=X.K:=by subst hX;rfl
  have eA:XC.A=X.A:=by subst hX;rfl
  have K0:PG XC tg g:=by subst hX;exact hg _ _
  have K9:kq XC ifs tt:=by subst hX;exact ht _ _
  have KU:PE XC elt te:=by subst hX;exact he _ _
  refine wpAny_bind (wpAny_standAt (wpAny_bind ?_))
  rcases turn i n av H' w5 with ⟨stop,qn⟩ | ⟨go,N,hN,step⟩
  ·have hd:=T.done XC eP ew eK B9 i [] s' av H' (notedBy (model X.prog X.w) X.A XC.env λe s'=>RR (.ref s2.heap.objs.size) s3.heap.objs.size (.error e) s') I5 (stat ux) qZ stop
   rw [eA] at hd;refine thn hd λr s6 ⟨hr,I6⟩=>?_;subst hr;refine wpAny_pure ?_;subst hX;exact KA _ s3 H3 av H' s6 I3 f3 I6 qn
  ·have hd:=T.item XC eP ew eK B9 i [] s' av H' (notedBy (model X.prog X.w) X.A XC.env λe s'=>RR (.ref s2.heap.objs.size) s3.heap.objs.size (.error e) s') I5 (stat ux) qZ go
   rw [eA] at hd;refine thn hd λr s6 ⟨u,hr,h6⟩=>?_;subst hr;refine wpAny_bind (thn h6 λ_ s7 ⟨x,H7,I7,r7,y7,tW,Ed⟩=>?_);have C7:=I7.pinned (stat Ed) (T.obj _ _ tW)
   have again:∀{fe:St}{H8:Hp}{s8:Shared},Inv XC ([]++jJ fp s7.heap) fe H8 s8→N fe H8→∃m,m<n∧∃i av H',Inv XC [] av H' s8∧tn i s8.heap∧(∀b∈fp,H' b=none)∧W i m av H':=λ {fe H8 s8} I8 n8=>by
    obtain ⟨m',hm,w8⟩:=hN fe H8 n8;refine ⟨m',hm,i+1,fe,H8,I8.gU,T.keep _ _ _ tW λb hb o e=>(I8.pin (b,o) (eY _ (eY _ (cX hb e)))).1,λb hb=>?_,w8⟩;obtain ⟨o,e,d⟩:=T.obj _ _ tW b hb;exact (I8.pin (b,o) (eY _ (eY _ (cX hb e)))).2.1
   refine wpAny_bind (iN (thn (K0 _ s7 av H7 x u _ C7 r7 (step x H7 y7)) λ_ s8 ⟨fe,H8,I8,q8⟩=>?_));refine wpAny_bind (iN (thn (K9 _ s8 fe H8 _ I8 q8) λb s9 ⟨H9,I9,q9⟩=>?_));cases b with
   |false=>
    rw [if_neg bY] at q9;exact wpAny_pure ⟨by subst hX;rfl,again I9 q9⟩
   |true=>
    rw [if_pos rfl] at q9;refine wpAny_bind (wpAny_bind (iN (thn (KU _ s9 fe H9 _ I9 q9) λy HM ⟨v,C4,JA,LO,ys,hD,hz,LM⟩=>?_)));refine wpAny_bind (iN (thn (mZ _ HM fe C4 (.ref s2.heap.objs.size) [v] _ [y] (λ_ H'=>N fe H') JA rfl (.cons LO .nil) ⟨_,ys,v,rfl,rfl,hD,hz,LM⟩) λ_ HN ⟨_,Gj,C5,_,LN⟩=>?_));exact wpAny_pure (wpAny_pure ⟨by subst hX;rfl,again C5 LN⟩)
 subst hX;exact codeAny_compStart_list loop (T.self _ 0 _ _ _ FX loop)
theorem Fc(hc:X.calm=true)(c:bU X scope)(dF:cF scope X.N src NC)(hi:PI X tg iter wi)
  (hg:∀ex s H,PG (b0 X scope NC ex s H) tg g) (ht:∀ex s H,kq (b0 X scope NC ex s H) ifs tt) (he:∀ex s H,PE (b0 X scope NC ex s H) elt te)
  (hs:∀x,foldedSetIterable iter X.env x=pure x:=by intro _;rfl):PE X (.ListComp elt [⟨tg,iter,ifs,0⟩] scope pos) (H0 wi g tt te src):=by
 intro pins s σ H Q I h;rw [eval_ListComp];refine wpAny_comprehension_free (use:=none) rfl hs (fO (c.cells I.ok)) c.kind c.names (thn (hi pins s σ H _ I h) λv s1 h1=>thn h1 λCk s2 h2=>?_);obtain ⟨it,fp,tn,J,H2,rfl,I2,T,nh,f2,hW⟩:=h2;refine qo (RR:=λacc C=>compPost (model X.prog X.w) X.A X.xe none (EP X pins σ Q) acc C) (Q:=Q) hc c dF I2 T nh f2 (hg fp) (ht fp) (he fp) hW ?_;intro D s3 H3 av H' s' I3 f3 J' q;obtain ⟨m,hn,_⟩:=J'.loc;exact ⟨m,hn,λh' sb=>⟨.ref D,H',comp_back I3 f3 J' sb,rfl,q⟩⟩
def HY(wi:TI)(g:TG)(tt:TT)(te:TE)(src:List (Option Nat))(i:Nat):TS:=λD σ H=>H0 wi g tt te src σ H λv H'=>D.nx (σ.set i (some v)) H'
theorem vz{i:Nat}{x:Str}{px f6:Pos}(hc:X.calm=true)(hN:X.N.Nodup)(kD:X.N[i]? =some x)(hx:Loc X.env.scope x)(c:bU X scope)(dF:cF scope X.N src NC)(hi:PI X tg iter wi)
  (hg:∀ex s H,PG (b0 X scope NC ex s H) tg g) (ht:∀ex s H,kq (b0 X scope NC ex s H) ifs tt) (he:∀ex s H,PE (b0 X scope NC ex s H) elt te)
  (jB:swapsWith (.ListComp elt [⟨tg,iter,ifs,0⟩] scope pos) (some (.Name x px)) f6.line X.env=pure true)
  (hf:X.fn x=true∨X.env.scope.names.lookup x=some .local:=by first|exact .inl rfl|exact .inr rfl|assumption)
  (hs:∀x,foldedSetIterable iter X.env x=pure x:=by intro _;rfl):PS X (.Assign [.Name x px] (.ListComp elt [⟨tg,iter,ifs,0⟩] scope pos) f6) (HY wi g tt te src i):=by
 intro pins s σ H D I h;rw [exec_Assign_Name_used _ _ _ _ jB];refine wpAny_bind (wpAny_standAt (wpAny_bind ?_));show wpAny _ X.A (do let _ ←comprehension (.ListComp elt [⟨tg,iter,ifs,0⟩] scope pos) scope X.env _ (newList []) false (eval iter X.env) (some (assign (.Name x px) X.env))) _ _ s
 refine wpAny_bind (wpAny_mono (wpAny_comprehension_free (use:=some (assign (.Name x px) X.env)) (Q:=λ_ s'=>SP X pins D .next s') rfl hs (fO (c.cells I.ok)) c.kind c.names
  (thn (hi pins s σ H _ I h) λv s1 h1=>thn h1 λCk s2 h2=>?_)) (λ_ s' hq=>wpAny_pure (wpAny_pure hq)) λ_ _ e=>e)
 obtain ⟨it,fp,tn,J,H2,rfl,I2,T,nh,f2,hW⟩:=h2;refine qo (RR:=λacc C=>compPost (model X.prog X.w) X.A X.xe (some (assign (.Name x px) X.env)) (λ_ s'=>SP X pins D .next s') acc C) (Q:=λv H'=>D.nx (σ.set i (some v)) H') hc c dF I2 T nh f2 (hg fp) (ht fp) (he fp) hW ?_;intro a s3 H3 av H' s' I3 f3 J' q;obtain ⟨m,hn,_⟩:=J'.loc;have IX:Inv X pins σ H' s':=comp_back I3 f3 J' (.refl ..);show wpAny _ X.A (assign (.Name x px) X.env (.ref a)) _ _ _;have nL:s3.heap.objs.size≠X.env.locals:=Nat.ne_of_gt I3.lt
 have nc:∀y d,X.env.cells.lookup y=some d→d≠s3.heap.objs.size:=λy d e z=>by
  obtain ⟨v,hv⟩:=I3.cell y d e
  have:=hv.lt
  rw [z] at this;exact absurd this (fB _)
 have np:∀p∈X.pn++pins,p.1≠s3.heap.objs.size:=λp hp z=>by
  have:=Heap.lt_size (I3.pin p hp).1
  rw [z] at this;exact absurd this (fB _)
 obtain ⟨oC,es,ep,K8,zK,rC⟩:=id hn;have Ei:H' s3.heap.objs.size=none:=J'.free
 have IP:Inv X ((s3.heap.objs.size,oC)::pins) σ H' s':=IX.jg λp hp=>by
  rcases bQ.mp hp with z|z
  ·rw [z]
   exact ⟨K8,Ei,nL,I3.EV (bh _),λv w=>by rw [zK] at w;cases w⟩
  ·exact IX.pin p (eY _ z)
 refine wpAny_assign_Name (lO (x:=x) IP hN kD hx (v:= .ref a) rfl (λs5 I5=>?_) hf);have Kw:=(I5.pin (s3.heap.objs.size,oC) (eY _ bP)).1;refine ⟨m,⟨oC,es,ep,Kw,zK,rC⟩,λh6 sb=>?_⟩;have C6:Inv X pins (σ.set i (some (.ref a))) H' s5:=I5.jg λp hp=>I5.pin p (eY _ (bV _ hp));exact ⟨_,H',C6.turned (t':=s5.toks) (it:=s3.heap.objs.size) (λb o hb e=>sb.extBut b o hb e) Ei nL (.inr I3.sz) nc np,q⟩
end
section
variable {X:Cx} {pins:List (Addr×Obj)} {σ:St} {H:Hp} {s:Shared} {h':Heap} {fp:List Addr}
theorem Inv.y9{t':Nat}(I:Inv X pins σ H s)(hf:∀b∈fp,eF X pins H b)(k:∀b o,b∉fp→s.heap.get? b=some o→h'.get? b=some o):Inv X pins σ H {s with heap:=h',toks:=t'}:=by
 refine I.step (g':=s.gens) (d':=s.drawn) (ch:=fp) (λb hb=>?_) (λb o _ _ hc e _=>k b o hc e) (λb o _ _ hc e _=>⟨o.slots,k b o hc e⟩) (λ_ _ _ _ n=>n)
  (λb o hc e=>⟨o,k b o hc e⟩) (λ_ _ e=>e) (λ_ _ _ e=>e) (λb ps e=>⟨#[],by rw [e];simp⟩) (λm hm=>?_) (λb u e=>?_) I.bare
 ·obtain ⟨_,f1,_,f3,f4,f5⟩:=hf b hb
  exact ⟨f3,f1,f4,f5⟩
 ·obtain ⟨o,es,ep,ho,r⟩:=hm
  exact ⟨o,es,ep,k _ o (λz=>(hf _ z).2.1 rfl) ho,r⟩
 ·have nf:∀b u,H b=some u→b∉fp:=λb u e z=>by rw [(hf b z).1] at e;cases e
  refine (I.hok b u e).oU (λc v hc q=>k c v ?_ q) (λ_ q=>q) λ_ _ q=>q
  rcases hc with z|z
  ·rw [z];exact nf b u e
  ·exact nf c _ z
theorem Inv.F6{t':Nat}{t:Addr}{o:HO}(I:Inv X pins σ H s)(hf:∀b∈fp,eF X pins H b)(k:∀b o,b∉fp→s.heap.get? b=some o→h'.get? b=some o)(ht:s.heap.objs.size≤t)
  (new:cu X.prog X.w (upd H t o) h' t o):Inv X pins σ (upd H t o) {s with heap:=h',toks:=t'}:=by
 have nt:H t=none:=I.hok.fresh ht;have up:∀b u,H b=some u→upd H t o b=some u:=λb u e=>by rw [aC (aP e nt)];exact e
 refine I.step (g':=s.gens) (d':=s.drawn) (ch:=fp) (λb hb=>?_) (λb o _ _ hc e _=>k b o hc e) (λb o _ _ hc e _=>⟨o.slots,k b o hc e⟩) (λb o _ e n=>?_)
  (λb o hc e=>⟨o,k b o hc e⟩) (λb xs e=>up b _ e) (λb _ _ e=>up b _ e) (λb ps e=>⟨#[],by rw [up b _ e];simp⟩) (λm hm=>?_) (λb u e=>?_) I.bare
 ·obtain ⟨_,f1,_,f3,f4,f5⟩:=hf b hb
  exact ⟨f3,f1,f4,f5⟩
 ·rw [aC (bZ (fI (Heap.lt_size e) ht))];exact n
 ·obtain ⟨o,es,ep,ho,r⟩:=hm
  exact ⟨o,es,ep,k _ o (λz=>(hf _ z).2.1 rfl) ho,r⟩
 ·by_cases hb:b=t
  ·subst hb
   rw [aw] at e;cases e;exact new
  ·rw [aC hb] at e
   have nf:∀b u,H b=some u→b∉fp:=λb u e z=>by rw [(hf b z).1] at e;cases e
   refine (I.hok b u e).oU (λc v hc q=>k c v ?_ q) (λb' q=>up b' _ q) λb' _ q=>up b' _ q
   rcases hc with z|z
   ·rw [z];exact nf b u e
   ·exact nf c _ z
end
def JB(K:PySem.W.Frag)(a:Addr):It:=
 ⟨λi H=>∃xs x,cc K H a xs∧xs[i]? =some x,λi H y H'=>∃t x,y= .ref t∧H t=none∧H'=upd H t (.tup [.int i,x])∧∀xs,cc K H a xs→xs[i]? =some x,λi H=>∃xs,cc K H a xs∧xs.length≤i⟩
theorem yn{h:Heap}{t:Addr}{u v:Value}(e:h.get? t=some {cls:= .type "tuple",data:= .seq #[u,v]}):IsTup h t [u,v].toArray:=⟨_,e,rfl,_,rfl⟩
theorem AQ{P:Program}{w:World}{K:PySem.W.Frag}{es:List Expr}{k1}{tp:Pos}(a e it:Addr)(ne:e≠it):
  Turn P w K (.Tuple es k1 tp) (JB K a) [e,it] e (λi h=>(∃old,IsEnum h e it i old)∧h.IsListIter it a i) where
 mem:=by simp
 obj:=λi h st b hb=>by
  obtain ⟨⟨old,he⟩,o,e2,c,d⟩:=st
  rcases bQ.mp hb with z|z
  ·subst z
   exact ⟨_,he,λv w=>by cases w⟩
  ·have z':b=it:=by simpa using z
   subst z';exact ⟨o,e2,λv z=>by rw [d] at z;cases z⟩
 keep:=λi h h' st k=>by
  obtain ⟨⟨old,he⟩,nh⟩:=st;exact ⟨⟨old,k e (by simp) _ he⟩,nh.at λo q=>k it (by simp) o q⟩
 item:=by
  intro X hP hw hK hc i pins s σ H E I hf st hg;subst hP hw hK;obtain ⟨xs,x,hq,hx⟩:=hg;obtain ⟨its,rv,p,hz⟩:=I.list hq;obtain ⟨u,hu,ru⟩:=rv.get hx;obtain ⟨⟨old,he⟩,hit⟩:=st;refine wpAny_pyNext_enum_item he hit p.isList (x:=u) (by simpa using hu) ne λh' KR Ep Up XJ kk=>?_
  have k2:∀b o,b∉ [e,it]→s.heap.get? b=some o→h'.get? b=some o:=λb o hb q=>kk b o (λz=>hb (by simp [z])) (λz=>hb (by simp [z])) q
  have I1:Inv X pins σ (upd H s.heap.objs.size (.tup [.int i,x])) {s with heap:=h',toks:=s.toks+1}:=
   I.F6 hf k2 (bh _) ⟨by show 2≤sizeLine;decide,[.int i s.toks,u], .cons ⟨_,rfl⟩ (.cons ru .nil),yn Up⟩
  refine ⟨_,rfl,wpAny_letOwnedTupleGo_enum KR λh2 TX sb=>?_⟩
  have lt:∀b∈ [e,it],b<s.heap.objs.size:=λb hb=>by
   rcases bQ.mp hb with z|z
   ·rw [z];exact Heap.lt_size he
   ·obtain ⟨o,e2,_⟩:=hit
    have z':b=it:=by simpa using z
    rw [z'];exact Heap.lt_size e2
  have Ox:∀b∈ [e,it],eF X pins (upd H s.heap.objs.size (.tup [.int i,x])) b:=λb hb=>⟨by rw [aC (bZ (lt b hb))];exact (hf b hb).1,(hf b hb).2⟩
  refine ⟨.ref s.heap.objs.size,_,I1.y9 (t':=s.toks+1) Ox (λb o hb q=>sb.extBut b o (λz=>hb (by simp [z])) q),rfl,⟨_,x,rfl,I.hok.fresh (bh _),rfl,λys hy=>by rw [I.vg hy hq];exact hx⟩,⟨⟨u,?_⟩,Ep.extBut sb.extBut (Ne.symm ne)⟩,λb hb=>(Ox b hb).1⟩
  have z:((i+1:Nat):Int)=(i:Int)+1:=by omega
  rw [z];exact TX
 done:=by
  intro X hP hw hK hc i pins s σ H E I hf st hg;subst hP hw hK;obtain ⟨xs,hq,hx⟩:=hg;obtain ⟨its,rv,p,hz⟩:=I.list hq;have hl:=rv.length;obtain ⟨⟨old,he⟩,hit⟩:=st;exact wpAny_pyNext_enum_end (I.ok.hd hc) he hit p.isList (by simp;omega) λh' eb=>⟨rfl,I.y9 (t':=s.toks) hf λb o hb q=>eb b o (λz=>hb (by simp [z])) q⟩
 self:=λ_ _ _ _ _ st h=>by
  obtain ⟨⟨old,he⟩,_⟩:=st;exact wpAny_pyIter_enum he h
section
variable {X:Cx}
def Lh(K:PySem.W.Frag)(ta:TA):TI:=λσ H R=>ta σ H λvs H1=>∃a,vs= [.ref a]∧(∃xs,H1 a=some (.lst xs))∧R (JB K a) H1
theorem Fi{a:Expr}{ta:TA}{p pos:Pos}{es:List Expr}{k1}{tp:Pos}(hg:Gl X "enumerate")(hm:X.mg "enumerate"=none)(ha:PA X [a] ta)(hs:starEach [a] X.env= [(false,eval a X.env)]:=by rfl):
  PI X (.Tuple es k1 tp) (.Call (.Name "enumerate" p) [a] [] pos) (Lh X.K ta):=by
 intro pins s σ H R I h;refine Call_ (gI I hg hm boot_enumerate (PyProof.Rows.callWith_type1 (thn (ha pos pins s σ H _ I h) λus s1 ⟨vs,H1,I1,r1,q1⟩=>?_) hs rfl));obtain ⟨l,e,⟨xs,hl⟩,q⟩:=q1;subst e;obtain ⟨u,rfl,ru⟩:=r1.one;cases ru;obtain ⟨z,its,n,rv,hlen,e⟩:=I1.mh hl;refine call_enumerate_1 e λh' he hit qS kk=>?_;refine wpAny_pyIter_enum he ?_;have zS:s1.heap.objs.size+1≠s1.heap.objs.size:=Nat.succ_ne_self _;refine ⟨s1.heap.objs.size+1,[s1.heap.objs.size+1,s1.heap.objs.size],_,_,H1,rfl,I1.kept (t':=s1.toks) kk,AQ l _ _ zS,⟨⟨_,he⟩,hit⟩,λb hb=>?_,q⟩
 have GI:s1.heap.objs.size≤b:=by
  rcases bQ.mp hb with z|z
  ·rw [z];exact pD _
  ·have z':b=s1.heap.objs.size:=by simpa using z
   rw [z'];exact bh _
 exact I1.Ec GI (I1.hok.fresh GI)
end
end L2
namespace Wb
abbrev W:=List (List Nat)
def row(w:W)(p:Nat):List Nat:=w.getD p []
inductive Reach (w:W):Nat→Nat→Prop
 |refl (p):Reach w p p
 |step {p q r}:Reach w p q→r∈row w q→Reach w p r
structure Good (w:W):Prop where
 rng:∀p q,q∈row w p→q<w.length
 irr:∀p,p∉row w p
 nod:∀p,(row w p).Nodup
 sym:∀p q,q∈row w p→p∈row w q
 con:∀p,p<w.length→Reach w 0 p
theorem bu{w:W}{p q:Nat}(h:q∈row w p):p<w.length:=by
 apply Classical.byContradiction;intro hn;unfold row at h;rw [aK,j3 (by omega)] at h
 simp at h
theorem FF{w:W}{p:Nat}(h:p<w.length):w[p]? =some (row w p):=by
 unfold row;rw [aK,bq h];rfl
theorem BG{w:W}{p:Nat}{r:List Nat}(h:w[p]? =some r):row w p=r:=by
 unfold row;rw [aK,h];rfl
theorem yM{w:W}{p:Nat}(h:w.length≤p):row w p= []:=by
 unfold row;rw [aK,j3 h];rfl
theorem Reach.trans{w:W}{p q r:Nat}(h:Reach w p q)(h':Reach w q r):Reach w p r:=by
 induction h' with
 |refl=>exact h
 |step _ hr ih=>exact .step ih hr
theorem Reach.symm{w:W}(hs:∀p q,q∈row w p→p∈row w q){p q:Nat}(h:Reach w p q):Reach w q p:=by
 induction h with
 |refl=>exact .refl _
 |step _ hr ih=>exact (Reach.step (.refl _) (hs _ _ hr)).trans ih
theorem Reach.mono{w w':W}(hm:∀p q,q∈row w p→q∈row w' p){p q:Nat}(h:Reach w p q):Reach w' p q:=by
 induction h with
 |refl=>exact .refl _
 |step _ hr ih=>exact .step ih (hm _ _ hr)
def ins{α:Type}(xs:List α)(i:Nat)(x:α):List α:=xs.take i++x::xs.drop i
theorem pM{α:Type}(xs:List α)(i:Nat)(x:α):(ins xs i x).Perm (x::xs):=by
 unfold ins;have h:= @List.perm_middle _ x (xs.take i) (xs.drop i);rw [iH] at h;exact h
theorem EN{α:Type}{xs:List α}{i:Nat}{x a:α}:a∈ins xs i x↔a=x∨a∈xs:=by
 rw [(pM xs i x).mem_iff,bQ]
theorem Ah{α:Type}{xs:List α}{i:Nat}{x:α}(h:xs.Nodup)(hx:x∉xs):(ins xs i x).Nodup:=by
 rw [(pM xs i x).nodup_iff,fJ];exact ⟨hx,h⟩
theorem yk{α:Type}(xs:List α)(i:Nat)(x:α):(ins xs i x).length=xs.length+1:=by
 rw [(pM xs i x).length_eq];rfl
theorem good_ren{w w':W}{ord:Nat→Nat}(g:Good w)(hl:w'.length=w.length)(into:∀p,p<w.length→ord p<w.length)
  (inj:∀p q,p<w.length→q<w.length→ord p=ord q→p=q) (C0:∀y,y<w.length→∃p,p<w.length∧ord p=y)
  (Jc:∀p,p<w.length→(row w' (ord p)).Perm ((row w p).map ord)):Good w':=by
 have mem:∀p q,p<w.length→(q∈row w' (ord p)↔∃a,a∈row w p∧ord a=q):=λp q hp=>by
  rw [(Jc p hp).mem_iff,cT]
 have reach:∀{p q},Reach w p q→Reach w' (ord p) (ord q):=λ {p q} h=>by
  induction h with
  |refl=>exact .refl _
  |step _ hr ih=>exact .step ih ((mem _ _ (bu hr)).mpr ⟨_,hr,rfl⟩)
 refine ⟨λy q hy=>?_,λy hy=>?_,λy=>?_,λy q hy=>?_,λy hy=>?_⟩
 ·obtain ⟨p,hp,rfl⟩:=C0 y (by have:=bu hy;omega)
  obtain ⟨a,ha,rfl⟩:=(mem p q hp).mp hy;rw [hl];exact into a (g.rng _ _ ha)
 ·obtain ⟨p,hp,rfl⟩:=C0 y (by have:=bu hy;omega)
  obtain ⟨a,ha,e⟩:=(mem p _ hp).mp hy
  have:=inj a p (g.rng _ _ ha) hp e
  subst this;exact g.irr _ ha
 ·by_cases hy:y<w.length
  ·obtain ⟨p,hp,rfl⟩:=C0 y hy
   rw [(Jc p hp).nodup_iff];unfold List.Nodup;rw [js];refine List.Pairwise.imp_of_mem ?_ (g.nod p);intro a b ha hb ne e;exact ne (inj a b (g.rng _ _ ha) (g.rng _ _ hb) e)
  ·rw [yM (by omega)];exact j8
 ·obtain ⟨p,hp,rfl⟩:=C0 y (by have:=bu hy;omega)
  obtain ⟨a,ha,rfl⟩:=(mem p q hp).mp hy;exact (mem a _ (g.rng _ _ ha)).mpr ⟨p,g.sym _ _ ha,rfl⟩
 ·rw [hl] at hy
  obtain ⟨p,hp,rfl⟩:=C0 y hy;obtain ⟨z,hz,e0⟩:=C0 0 (by omega)
  have h1:=reach (((g.con z hz).symm g.sym).trans (g.con p hp));rw [e0] at h1;exact h1
def ae(l:List Nat)(x:Nat):Nat:=l.getD ((l.idxOf x+1)%l.length) 0
def aW(w:W)(d:Nat×Nat):Nat×Nat:=(d.2,ae (row w d.2) d.1)
def aF(w:W)(d:Nat×Nat):Prop:=d.2∈row w d.1
theorem jQ{l:List Nat}{x:Nat}(h:x∈l):l[(l.idxOf x+1)%l.length]? =some (ae l x):=by
 have hp:0<l.length:=zd h;unfold ae;rw [aK,bq (mJ _ hp)];rfl
theorem bc{l:List Nat}{x:Nat}(h:x∈l):ae l x∈l:=gD (jQ h)
theorem EO{a b n:Nat}(ha:a<n)(hb:b<n)(e:(a+1)%n=(b+1)%n):a=b:=by
 by_cases h1:a+1=n
 ·by_cases h2:b+1=n
  ·omega
  ·rw [h1,nE,kY (by omega)] at e;omega
 ·by_cases h2:b+1=n
  ·rw [h2,nE,kY (by omega)] at e;omega
  ·rw [kY (by omega),kY (by omega)] at e;omega
theorem cR{l:List Nat}{x y:Nat}(nd:l.Nodup)(hx:x∈l)(hy:y∈l)(e:ae l x=ae l y):x=y:=by
 have hp:0<l.length:=zd hx;have h1:=jQ hx;have h2:=jQ hy;rw [e] at h1;have lx:=fH.mpr hx;have ly:=fH.mpr hy;obtain ⟨a1,b1⟩:=fC.mp h1;obtain ⟨a2,b2⟩:=fC.mp h2;have q:=(List.getElem_inj nd).mp (b1.trans b2.symm);have q2:=EO lx ly q;have e1:=gE lx;have e2:=gE ly;rw [←e1,←e2];simp only [q2]
theorem eo{w:W}{d:Nat×Nat}(g:Good w)(h:aF w d):aF w (aW w d):=bc (g.sym _ _ h)
theorem jd{w:W}{d e:Nat×Nat}(g:Good w)(h:aF w d)(h':aF w e)(q:aW w d=aW w e):d=e:=by
 have e2:d.2=e.2:=congrArg Prod.fst q;have e1:ae (row w d.2) d.1=ae (row w e.2) e.1:=congrArg Prod.snd q;rw [←e2] at e1;have h1:d.1∈row w d.2:=g.sym _ _ h;have h2:e.1∈row w d.2:=by rw [e2];exact g.sym _ _ h'
 exact Prod.ext (cR (g.nod _) h1 h2 e1) e2
def fj(w:W):List (Nat×Nat):=(List.range w.length).flatMap λp=>(row w p).map λq=>(p,q)
theorem hE{w:W}{d:Nat×Nat}:d∈fj w↔aF w d:=by
 unfold fj aF;rw [t6]
 constructor
 ·rintro ⟨p,_,h⟩
  obtain ⟨q,hq,rfl⟩:=cT.mp h;exact hq
 ·intro h
  exact ⟨d.1,cm.mpr (bu h),cT.mpr ⟨d.2,h,rfl⟩⟩
theorem aU{α:Type} [DecidableEq α]:∀{l m:List α},l.Nodup→(∀x∈l,x∈m)→l.length≤m.length
 | [],_,_,_=>b9 _
 |a::r,m,nd,h=>by
  have jb:=fJ.mp nd;have am:=h a bP;have ih:=aU (l:=r) (m:=m.erase a) jb.2 λx hx=>(List.mem_erase_of_ne (λ(e:x=a)=>jb.1 (by rw [←e];exact hx))).mpr (h x (bV _ hx))
  rw [List.length_erase_of_mem am] at ih
  have:=zd am
  simp only [dY];omega
theorem h7{w:W}(g:Good w)(p:Nat):(row w p).length≤w.length:=by
 have:=aU (m:=List.range w.length) (g.nod p) λx hx=>cm.mpr (g.rng _ _ hx)
 simpa using this
theorem ql{w:W}(g:Good w){S:Nat→Prop}(h0:S 0)(hc:∀p q,S p→q∈row w p→S q):∀p,p<w.length→S p:=λp hp=>by
 have:∀{a b},Reach w a b→S a→S b:=λ {a b} h ha=>by
  induction h with
  |refl=>exact ha
  |step _ hr ih=>exact hc _ _ ih hr
 exact this (g.con p hp) h0
def lexLe(a b:Nat×Nat):Prop:=a.1<b.1∨(a.1=b.1∧a.2≤b.2)
theorem kL{α β:Type}{R:β→β→Prop}{f:α→List β}:∀{l:List α},(∀x∈l,(f x).Pairwise R)→l.Pairwise (λa b=>∀x∈f a,∀y∈f b,R x y)→(l.flatMap f).Pairwise R
 | [],_,_=>List.Pairwise.nil
 |a::r,h,p=>by
  have p':=List.pairwise_cons.mp p;rw [pz,List.pairwise_append];refine ⟨h a bP,kL (λx hx=>h x (bV _ hx)) p'.2,λx hx y hy=>?_⟩;obtain ⟨b,hb,Ld⟩:=t6.mp hy;exact p'.1 b hb x hx y Ld
end Wb
namespace L2
open PySem PySem.Spec PyProof.Rows
section
variable {X:Cx}
theorem Vals.ins{x:V}{u:Value}(r:RelV x u){xs:List V}{us:List Value}(i:Nat)(h:Vals xs us):Vals (Wb.ins xs i x) (Wb.ins us i u):=(h.take i).append (.cons r (h.drop i))
def Fz:V→List V→Hp→VK→Prop:=λx vs H Q=>∃l xs i y,x= .ref l∧vs= [.int i,y]∧H l=some (.lst xs)∧0≤i∧i≤xs.length∧xs.length<sizeLine∧Q .aZ (upd H l (.lst (Wb.ins xs i.toNat y)))
theorem Af:C9 X "list.insert" Fz:=by
 intro pins s σ H x vs v us Q I rx rv h;obtain ⟨l,xs,i,y,rfl,rfl,hH,h0,h1,hz,q⟩:=h;cases rx;obtain ⟨u1,u2,rfl,⟨t,rfl⟩,ru⟩:=rv.two;obtain ⟨z,its,n,r,hl,e⟩:=I.mh hH;have b4:=jE
 have En:¬(!Builtin.List.listFitsIndex i)=true:=by
  rw [fitsIndex_both (by omega) (by omega)]
  exact bY
 refine call_meets F.slot_list_insert ⟨_,e,rfl⟩ F.entry_list_insert (F.args_list_insert_3 _ _ _) (AutoSeq1.list_insert_list_int_val_1 l its.toArray n i t u2 En (by rw [b7];omega)) ⟨e,?_⟩
 refine ⟨.aZ,_,I.Bm (its':=Wb.ins its i.toNat u2) hH e ?_ (r.ins ru i.toNat) ?_,rfl,q⟩
 ·have hi:¬i<0:=by omega
  have hm:min i.toNat its.length=i.toNat:=by omega
  simp only [hi,if_false,b7,hm];apply Array.toList_inj.mp;unfold Wb.ins;simp;exact List.take_of_length_le (by rw [eN];omega)
 ·rw [Wb.yk];omega
def HK(K:PySem.W.Frag):V→List V→Hp→VK→Prop:=λx vs H Q=>∃(l:Addr)(xs:List V)(y:V)(j:Nat)(z:V),x= .ref l∧vs= [y]∧H l=some (.lst xs)∧fP y=true∧xs.all fP=true∧xs[j]? =some z∧sE z y=true∧
 (∀(m:Nat) z,m<j→xs[m]? =some z→sE z y=false)∧Q (.int j) H
theorem Cv:C9 X "list.index" (HK X.K):=by
 intro pins s σ H x vs v us Q I rx rv h;obtain ⟨l,xs,y,j,z,rfl,rfl,hH,fy,fs,hz,ez,K7,q⟩:=h;cases rx;obtain ⟨u,rfl,ru⟩:=rv.one;obtain ⟨qS,its,n,r,hl,e⟩:=I.mh hH;obtain ⟨w,hw,FG⟩:=r.get hz
 have hj:j<its.toArray.size:=by
  obtain ⟨h1,_⟩:=fC.mp hw;simpa using h1
 have flat:∀(m:Nat) z,xs[m]? =some z→fP z=true:=λm z h=>(List.all_eq_true.mp fs) z (gD h)
 have Us:its.toArray[j]=w:=by
  obtain ⟨h1,h2⟩:=fC.mp hw;simpa using h2
 have b4:=jE
 have OB:j<xs.length:=by
  obtain ⟨h1,_⟩:=fC.mp hz;exact h1
 refine call_meets F.slot_list_index ⟨_,e,rfl⟩ F.entry_list_index (F.args_list_index_2 _ _) (SeqAt.list_indexAt l its.toArray n none #[] u (lS y) j hj (by omega) ?_ ?_) ⟨e,λw hw=>gQ ru fy r fs w (by simpa using hw),?_⟩
 ·rw [Us,rD FG (flat j z hz)];exact ez
 ·intro m hm K5
  have yf:m<its.length:=by simpa using hm
  obtain ⟨zm,Lg⟩:∃zm,xs[m]? =some zm:=⟨_,bq (by omega)⟩
  obtain ⟨wm,Ut,Xb⟩:=r.get Lg
  have To:its.toArray[m]=wm:=by
   obtain ⟨h1,h2⟩:=fC.mp Ut;simpa using h2
  rw [To,rD Xb (flat m zm Lg)];exact K7 m zm K5 Lg
 ·exact ⟨.int j,H,I.tok _,⟨_,rfl⟩,q⟩
end
mutual
inductive Dp (K:PySem.W.Frag) (H:Hp):V→PyData→Prop
 |aZ:Dp K H .aZ .none
 |bl (b:Bool):Dp K H (.bl b) (.bool b)
 |int (i:Int):Dp K H (.int i) (.int i)
 |str (x:Str) (h:PyData.strOk x=true):Dp K H (.str x) (.str x)
 |lst {a:Addr} {xs:List V} {ds:List PyData}:cc K H a xs→dP K H xs ds→Dp K H (.ref a) (.list ds)
 |tup {a:Addr} {xs:List V} {ds:List PyData}:fi K H a xs→dP K H xs ds→Dp K H (.ref a) (.tuple ds)
inductive dP (K:PySem.W.Frag) (H:Hp):List V→List PyData→Prop
 |nil:dP K H [] []
 |cons {v:V} {vs:List V} {d:PyData} {ds:List PyData}:Dp K H v d→dP K H vs ds→dP K H (v::vs) (d::ds)
end
section
variable {X:Cx} {pins:List (Addr×Obj)} {σ:St} {H:Hp} {s:Shared}
mutual
theorem Dp.reads(I:Inv X pins σ H s):∀{v:V}{d:PyData}{u:Value},Dp X.K H v d→RelV v u→(∃as,Reads s.heap u d as)∧d.canLay0=true
 |_,_,_, .aZ,r=>by cases r;exact ⟨⟨_, .none⟩,rfl⟩
 |_,_,_, .bl b,r=>by cases r;exact ⟨⟨_, .bool b⟩,rfl⟩
 |_,_,_, .int i,r=>by obtain ⟨t,rfl⟩:=r;exact ⟨⟨_, .int i t⟩,rfl⟩
 |_,_,_, .str x h,r=>by obtain ⟨t,rfl⟩:=r;exact ⟨⟨_, .str x t⟩,by simpa [PyData.canLay0] using h⟩
 |_,_,_, .lst h a,r=>by
  cases r;obtain ⟨its,rv,pl,hz⟩:=I.list h;obtain ⟨⟨as,ra⟩,c⟩:=dP.reads I a rv;obtain ⟨o,ho,hc,n,hd⟩:=pl.isList;exact ⟨⟨_, .list ho hc hd (by simpa using ra)⟩,by simpa [PyData.canLay0] using c⟩
 |_,_,_, .tup h a,r=>by
  cases r;obtain ⟨its,rv,pl,hz⟩:=I.tuple h;obtain ⟨⟨as,ra⟩,c⟩:=dP.reads I a rv;obtain ⟨o,ho,hc,n,hd⟩:=pl;exact ⟨⟨_, .tuple ho hc hd (by simpa using ra)⟩,by simpa [PyData.canLay0] using c⟩
theorem dP.reads(I:Inv X pins σ H s):∀{vs:List V}{ds:List PyData}{us:List Value},dP X.K H vs ds→Vals vs us→(∃as,ReadsAll s.heap us ds as)∧PyData.canLayAll0 ds=true
 |_,_,_, .nil, .nil=>⟨⟨_, .nil⟩,by simp [PyData.canLayAll0]⟩
 |_,_,_, .cons a as, .cons r rs=>by
  obtain ⟨⟨x,h1⟩,c1⟩:=Dp.reads I a r;obtain ⟨⟨y,h2⟩,c2⟩:=dP.reads I as rs;exact ⟨⟨_, .cons h1 h2⟩,by simp [PyData.canLayAll0,c1,c2]⟩
end
end
section
variable {X:Cx}
def QD(K:PySem.W.Frag):R2:=λx y H Q=>∃d e,Dp K H x d∧Dp K H y e∧d.depth≤64∧Q (.bl (PyData.eqv d e)) H
def QG(K:PySem.W.Frag):R2:=λx y H Q=>∃d e,Dp K H x d∧Dp K H y e∧d.depth≤64∧Q (.bl (!PyData.eqv d e)) H
theorem Ho(hu:X.A.units+64<cLine):OpR X (compareOp .Eq) (QD X.K):=by
 intro pins s σ H x y v u Q I rx ry h;obtain ⟨d,e,hd,he,hz,q⟩:=h;obtain ⟨⟨as,r1⟩,c1⟩:=hd.reads I rx;obtain ⟨⟨bs,r2⟩,c2⟩:=he.reads I ry;exact SeqAt.compareEq_reads r1 r2 c1 c2 (by have:=Nat.min_le_left d.depth e.depth;omega) ⟨.bl _,H,I,rfl,q⟩
theorem Ht(hu:X.A.units+64<cLine):OpR X (compareOp .NotEq) (QG X.K):=by
 intro pins s σ H x y v u Q I rx ry h;obtain ⟨d,e,hd,he,hz,q⟩:=h;obtain ⟨⟨as,r1⟩,c1⟩:=hd.reads I rx;obtain ⟨⟨bs,r2⟩,c2⟩:=he.reads I ry;exact SeqAt.compareNe_reads r1 r2 c1 c2 (by have:=Nat.min_le_left d.depth e.depth;omega) ⟨.bl _,H,I,rfl,q⟩
end
def nD(n:Nat):PyData:= .int n
def jV(r:List Nat):PyData:= .list (r.map nD)
theorem fW{α:Type}{f:α→PyData}(hf:∀a b,PyData.eqv (f a) (f b)=true↔a=b):∀xs ys:List α,PyData.eqvAll (xs.map f) (ys.map f)=true↔xs=ys
 | [],[]=>by simp [PyData.eqvAll]
 | [],_::_=>by simp [PyData.eqvAll]
 |_::_,[]=>by simp [PyData.eqvAll]
 |a::xs,b::ys=>by
  have ih:=fW hf xs ys;simp [PyData.eqvAll,hf,ih]
theorem GG(a b:Nat):PyData.eqv (nD a) (nD b)=true↔a=b:=by
 simp [nD,PyData.eqv];omega
theorem pK(a b:List Nat):PyData.eqv (jV a) (jV b)=true↔a=b:=by
 unfold jV;rw [PyData.eqv];exact fW GG a b
theorem fS{α:Type}{f:α→PyData}{k:Nat}(hf:∀a,(f a).depth≤k):∀xs:List α,PyData.depthAll (xs.map f)≤k
 | []=>by simp [PyData.depthAll]
 |a::xs=>by
  have:=hf a
  have ih:=fS hf xs;simp [PyData.depthAll];omega
theorem kz(a:List Nat):(jV a).depth≤2:=by
 unfold jV;rw [PyData.depth]
 have:=fS (f:=nD) (k:=1) (λn=>by simp [nD,PyData.depth]) a
 omega
def oW(w:List (List Nat)):PyData:= .list (w.map jV)
theorem uX(a b:List (List Nat)):PyData.eqv (oW a) (oW b)=true↔a=b:=by
 unfold oW;rw [PyData.eqv];exact fW pK a b
theorem xT(a:List (List Nat)):(oW a).depth≤3:=by
 unfold oW;rw [PyData.depth]
 have:=fS (f:=jV) (k:=2) kz a
 omega
end L2
namespace L2
open PySem PySem.Spec PyProof.Rows
theorem Vals.of_get:∀{xs:List V}{us:List Value},xs.length=us.length→(∀(k:Nat) x u,xs[k]? =some x→us[k]? =some u→RelV x u)→Vals xs us
 | [],[],_,_=> .nil
 | [],_::_,h,_=>by simp at h
 |_::_,[],h,_=>by simp at h
 |x::xs,u::us,h,r=> .cons (r 0 x u rfl rfl) (Vals.of_get (by simpa using h) λk y w h1 h2=>r (k+1) y w (by simpa using h1) (by simpa using h2))
section
variable {X:Cx}
theorem vZ:dB X (.builtin "isinstance") (λxs H Q=>∃(x:V)(n:String)(t:Value)(b:Bool),xs= [x, .ty n]∧iq X.K H x t∧PySem.W.kitOne X.K t (.type n)=some b∧Q (.bl b) H):=by
 intro pins s σ H xs us Q I rv h;obtain ⟨x,n,t,b,rfl,ty,e,q⟩:=h;obtain ⟨u1,u2,rfl,r1,r2⟩:=rv.two;cases r2;exact zZ I r1 ty e λtk=>⟨.bl b,H,I.tok _,rfl,q⟩
theorem uu:dB X (.builtin "sorted") (λxs H Q=>∃(p:Addr)(ns:List Int),xs= [.ref p]∧cc X.K H p (ns.map V.int)∧ns.length<64∧∀(q:Addr)(ms:List Int),H q=none→ms.Perm ns→ms.Pairwise (·≤·)→Q (.ref q) (upd H q (.lst (ms.map V.int)))):=by
 intro pins s σ H xs us Q I rv h;obtain ⟨p,ns,rfl,hp,hz,q⟩:=h;obtain ⟨u,rfl,ru⟩:=rv.one;cases ru;obtain ⟨its,r,pl,_⟩:=I.list hp;have hl:=r.length;rw [aJ] at hl;refine sorted_ints pl.isList (intsAre_of r) (by omega) λout ms hI Eu hs=>?_
 obtain ⟨e,he⟩:=sortedAll_at s.heap its out;have fr:H (s.heap.objs.size+1)=none:=I.hok.fresh (pD _);have Er:=Eu.length_eq;have cG:64≤sizeLine:=by decide
 refine ⟨.ref (s.heap.objs.size+1),_,I.laid (t':=s.toks) (λb o hb=>sortedAll_old hb) (pD _) (o:= .lst (ms.map V.int)) ⟨by rw [aJ];omega,out.toList,e,jR hI,by simpa using he⟩,rfl,q _ ms fr Eu hs⟩
end
theorem r6(elt t0 i0 t1 i1:Expr)(f0 f1:List Expr)(scope:Scope)(pos:Pos)(it acc:Value)(env:Env):
  compTurn (.ListComp elt [⟨t0,i0,f0,0⟩,⟨t1,i1,f1,0⟩] scope pos) 0 it acc env=(do
   standAt i0.pos
   match ←pyNext it with
   |none=>pure (.done .next)
   |some v=>
    letOwnedTupleGo t0 it v
    assign t0 env v
    let ok ←forIn f0 true λc r=>if r=true then do let ok ←isTrue c env (eval c env);pure (ForInStep.yield ok) else pure (ForInStep.yield r)
    if ok=true then
     let x ←eval i1 env
     standAt i1.pos
     let x ←foldedSetIterable i1 env x
     let yo ←holding [x] (pyIter x)
     let _ ←runOwn (.compStart (.ListComp elt [⟨t0,i0,f0,0⟩,⟨t1,i1,f1,0⟩] scope pos) 1 yo acc env) env
     again (.compLoop (.ListComp elt [⟨t0,i0,f0,0⟩,⟨t1,i1,f1,0⟩] scope pos) 0 it acc env)
    else again (.compLoop (.ListComp elt [⟨t0,i0,f0,0⟩,⟨t1,i1,f1,0⟩] scope pos) 0 it acc env)):=by rfl
theorem r8(elt t0 i0 t1 i1:Expr)(f0 f1:List Expr)(scope:Scope)(pos:Pos)(it acc:Value)(env:Env):
  compTurn (.ListComp elt [⟨t0,i0,f0,0⟩,⟨t1,i1,f1,0⟩] scope pos) 1 it acc env=(do
   standAt i1.pos
   match ←pyNext it with
   |none=>pure (.done .next)
   |some v=>
    letOwnedTupleGo t1 it v
    assign t1 env v
    let ok ←forIn f1 true λc r=>if r=true then do let ok ←isTrue c env (eval c env);pure (ForInStep.yield ok) else pure (ForInStep.yield r)
    if ok=true then
     (do let _ ←call (.builtin "list.append") [acc,←eval elt env])
     again (.compLoop (.ListComp elt [⟨t0,i0,f0,0⟩,⟨t1,i1,f1,0⟩] scope pos) 1 it acc env)
    else again (.compLoop (.ListComp elt [⟨t0,i0,f0,0⟩,⟨t1,i1,f1,0⟩] scope pos) 1 it acc env)):=by rfl
section
variable {X XC:Cx} {elt i0 t0 i1 t1:Expr} {f0 f1:List Expr} {scope:Scope} {pos:Pos} {wi cz:TI} {g g1:TG} {tt b5:TT} {te:TE} {src:List (Option Nat)} {NC:List Str}
theorem qO{it acc:Value}{env:Env}{R:Result→Shared→Prop}{s:Shared}{A:Around}
  (h0:codeAny (model X.prog X.w) A (.compLoop (.ListComp elt [⟨t0,i0,f0,0⟩,⟨t1,i1,f1,0⟩] scope pos) 1 it acc env) R s)
  (hp:∀(Q:Value→Shared→Prop)(E:Value→Shared→Prop),Q it s→wpAny (model X.prog X.w) A (pyIter it) Q E s):
  codeAny (model X.prog X.w) A (.compStart (.ListComp elt [⟨t0,i0,f0,0⟩,⟨t1,i1,f1,0⟩] scope pos) 1 it acc env) R s:=by
 refine codeAny_of_tree ?_;show wpAny _ _ ((compStart (.ListComp elt [⟨t0,i0,f0,0⟩,⟨t1,i1,f1,0⟩] scope pos) 1 it acc env).onRaise (λx=>do noteFrame x env;standAt theWindowsPlace)) _ _ s
 refine wpAny_notedAt ?_;unfold compStart;show wpAny _ _ (ask>>=_) _ _ s;refine wpAny_bind (wpAny_askSetting (wpAny_ite ?_))
 split
 ·first
   |exact wpAny_bind (wpAny_pure (wpAny_pure ⟨rfl,h0⟩))
   |exact wpAny_pure ⟨rfl,h0⟩
 ·refine wpAny_bind (wpAny_rule ?_)
  show wpAny _ _ (standAt i1.pos>>=_) _ _ s;exact wpAny_bind (wpAny_standAt (wpAny_bind (hp _ _ (wpAny_pure ⟨rfl,h0⟩))))
theorem xQ{pins:List (Addr×Obj)}{s:Shared}{σ:St}{H:Hp}{it D:Addr}{fp:List Addr}{tn:Nat→Heap→Prop}{J:It}{R:Result→Shared→Prop}{N:St→Hp→Prop}
  (GO:XC.xe=λ_ _=>False) (hc:XC.calm=true) (I:Inv XC pins σ H s) (T:Turn XC.prog XC.w XC.K t1 J fp it tn) (st:tn 0 s.heap) (f2:∀b∈fp,eF XC pins H b)
  (hg:PG XC t1 g1) (ht:kq XC f1 b5) (he:PE XC elt te)
  (hW:∃W:Nat→Nat→St→Hp→Prop,(∃m,W 0 m σ H)∧∀i m dE H2,W i m dE H2→(J.stop i H2∧N dE H2)∨
   (J.go i H2∧∃N1:St→Hp→Prop,(∀av H',N1 av H'→∃m',m'<m∧W (i+1) m' av H')∧∀x H3,J.yld i H2 x H3→g1 x dE H3 λdO H4=>b5 dO H4 λb H5=>
    if b=true then te dO H5 λv H6=>∃ys,H6 D=some (.lst ys)∧ys.length<sizeLine∧N1 dO (upd H6 D (.lst (ys++ [v]))) else N1 dO H5))
  (hR:∀av H' s',Inv XC pins av H' s'→N av H'→R (.ok .next) s'):
  codeAny (model XC.prog XC.w) XC.A (.compStart (.ListComp elt [⟨t0,i0,f0,0⟩,⟨t1,i1,f1,0⟩] scope pos) 1 (.ref it) (.ref D) XC.env) R s:=by
 obtain ⟨W,⟨m0,w0⟩,turn⟩:=hW
 have iN:∀{α:Type}{t:Sem α}{Q:α→Shared→Prop}{E:Value→Shared→Prop}{s:Shared},wpAny (model XC.prog XC.w) XC.A t Q XC.xe s→wpAny (model XC.prog XC.w) XC.A t Q E s:=λ {α t Q E s} h=>
  wpAny_mono h (λ_ _ q=>q) λ_ _ f=>by rw [GO] at f;exact f.elim
 have stat:∀{H':Hp},(∀b∈fp,H' b=none)→∀b∈fp,eF XC pins H' b:=λhn b hb=>⟨hn b hb,(f2 b hb).2⟩
 have loop:codeAny (model XC.prog XC.w) XC.A (.compLoop (.ListComp elt [⟨t0,i0,f0,0⟩,⟨t1,i1,f1,0⟩] scope pos) 1 (.ref it) (.ref D) XC.env) R s:=by
  refine codeAny_loop rfl (λn s'=>∃i av H',Inv XC pins av H' s'∧tn i s'.heap∧(∀b∈fp,H' b=none)∧W i n av H') (λn s' hI=>?_) m0 ⟨0,σ,H,I,st,λb hb=>(f2 b hb).1,w0⟩;obtain ⟨i,av,H',I5,qZ,ux,w5⟩:=hI;show wpAny _ XC.A ((compTurn (.ListComp elt [⟨t0,i0,f0,0⟩,⟨t1,i1,f1,0⟩] scope pos) 1 (.ref it) (.ref D) XC.env).onRaise (λx=>do noteFrame x XC.env;theTreesLotGoes x)) _ _ s'
  refine wpAny_noted ?_;rw [r8];refine wpAny_bind (wpAny_standAt (wpAny_bind ?_))
  rcases turn i n av H' w5 with ⟨stop,qn⟩ | ⟨go,N1,hN,step⟩
  ·refine thn (T.done XC rfl rfl rfl hc i pins s' av H' _ I5 (stat ux) qZ stop) λr s6 ⟨hr,I6⟩=>?_
   subst hr;exact wpAny_pure (hR av H' s6 I6 qn)
  ·refine thn (T.item XC rfl rfl rfl hc i pins s' av H' _ I5 (stat ux) qZ go) λr s6 ⟨u,hr,h6⟩=>?_
   subst hr;refine wpAny_bind (thn h6 λ_ s7 ⟨x,H7,I7,r7,y7,tW,Ed⟩=>?_);have C7:=I7.pinned (stat Ed) (T.obj _ _ tW)
   have nextT:∀{fe:St}{H8:Hp}{s8:Shared},Inv XC (pins++jJ fp s7.heap) fe H8 s8→N1 fe H8→∃m,m<n∧∃i av H',Inv XC pins av H' s8∧tn i s8.heap∧(∀b∈fp,H' b=none)∧W i m av H':=λ {fe H8 s8} I8 n8=>by
    obtain ⟨m',hm,w8⟩:=hN fe H8 n8;refine ⟨m',hm,i+1,fe,H8,I8.gU,T.keep _ _ _ tW λb hb o e=>(I8.pin (b,o) (eY _ (eY _ (cX hb e)))).1,λb hb=>?_,w8⟩;obtain ⟨o,e,d⟩:=T.obj _ _ tW b hb;exact (I8.pin (b,o) (eY _ (eY _ (cX hb e)))).2.1
   refine wpAny_bind (iN (thn (hg _ s7 av H7 x u _ C7 r7 (step x H7 y7)) λ_ s8 ⟨fe,H8,I8,q8⟩=>?_));refine wpAny_bind (iN (thn (ht _ s8 fe H8 _ I8 q8) λb s9 ⟨H9,I9,q9⟩=>?_));cases b with
   |false=>
    rw [if_neg bY] at q9;exact wpAny_pure ⟨rfl,nextT I9 q9⟩
   |true=>
    rw [if_pos rfl] at q9;refine wpAny_bind (wpAny_bind (iN (thn (he _ s9 fe H9 _ I9 q9) λy HM ⟨v,C4,JA,LO,ys,hD,hz,LM⟩=>?_)));refine wpAny_bind (iN (thn (mZ _ HM fe C4 (.ref D) [v] _ [y] (λ_ H'=>N1 fe H') JA rfl (.cons LO .nil) ⟨_,ys,v,rfl,rfl,hD,hz,LM⟩) λ_ HN ⟨_,Gj,C5,_,LN⟩=>?_));exact wpAny_pure (wpAny_pure ⟨rfl,nextT C5 LN⟩)
 exact qO (X:=XC) loop λQ E q=>T.self _ 0 _ _ _ st q
def Xp(g1:TG)(b5:TT)(te:TE)(D:Addr)(J:It)(N:St→Hp→Prop):St→Hp→Prop:=λσ H=>
 ∃W:Nat→Nat→St→Hp→Prop,(∃m,W 0 m σ H)∧∀i m dE H2,W i m dE H2→(J.stop i H2∧N dE H2)∨
  (J.go i H2∧∃N1:St→Hp→Prop,(∀av H',N1 av H'→∃m',m'<m∧W (i+1) m' av H')∧∀x H3,J.yld i H2 x H3→g1 x dE H3 λdO H4=>b5 dO H4 λb H5=>
   if b=true then te dO H5 λv H6=>∃ys,H6 D=some (.lst ys)∧ys.length<sizeLine∧N1 dO (upd H6 D (.lst (ys++ [v]))) else N1 dO H5)
def Jv(g:TG)(tt:TT)(cz:TI)(g1:TG)(b5:TT)(te:TE)(D:Addr)(J:It)(Q:VK)(σ:St)(H:Hp):Prop:=
 ∃W:Nat→Nat→St→Hp→Prop,(∃m,W 0 m σ H)∧∀i m dE H2,W i m dE H2→
  (J.stop i H2∧Q (.ref D) H2)∨
  (J.go i H2∧∃N:St→Hp→Prop,(∀av H',N av H'→∃m',m'<m∧W (i+1) m' av H')∧∀x H3,J.yld i H2 x H3→g x dE H3 λdO H4=>tt dO H4 λb H5=>
   if b=true then cz dO H5 λJ1 H6=>Xp g1 b5 te D J1 N dO H6 else N dO H5)
def F3(wi:TI)(g:TG)(tt:TT)(cz:TI)(g1:TG)(b5:TT)(te:TE)(src:List (Option Nat)):TE:=λσ H Q=>wi σ H λJ H1=>∀D,H1 D=none→Jv g tt cz g1 b5 te D J Q (j0 src σ) (upd H1 D (.lst []))
end
end L2
namespace KS
open PySem PySem.W PyProof.Rows
def ev{α:Type}(lt:Nat→Nat→Bool):KasT α→α
 | .ret a=>a
 | .ask i j k=>ev lt (k (lt i j))
theorem i6{α β:Type}(lt:Nat→Nat→Bool)(f:α→KasT β):∀t:KasT α,ev lt (t.bind f)=ev lt (f (ev lt t))
 | .ret _=>rfl
 | .ask i j k=>i6 lt f (k (lt i j))
structure Ord (lt:Nat→Nat→Bool):Prop where
 irr:∀a,lt a a=false
 neg:∀a b c,lt a c=true→lt a b=true∨lt b c=true
 tr:∀a b c,lt a b=true→lt b c=true→lt a c=true
section
variable {lt:Nat→Nat→Bool} (O:Ord lt)
def Le(lt:Nat→Nat→Bool)(a b:Nat):Prop:=lt b a=false
include O
theorem Ord.as{a b:Nat}(h:lt a b=true):Le lt a b:=by
 unfold Le;cases q:lt b a with
 |false=>rfl
 |true=>have:=O.tr _ _ _ h q;rw [O.irr] at this;cases this
theorem Ord.eQ{a b c:Nat}(h:Le lt a b)(h':Le lt b c):Le lt a c:=by
 unfold Le at*;cases q:lt c a with
 |false=>rfl
 |true=>rcases O.neg _ b _ q with z|z
        ·rw [h'] at z;cases z
        ·rw [h] at z;cases z
theorem Ord.rf(a:Nat):Le lt a a:=O.irr a
omit O
def P(p:Array Nat)(i:Nat):Nat:=p.getD i 0
theorem xB{p q:Array Nat}{i j:Nat}(h:p[i]? =q[j]?):P p i=P q j:=by unfold P;rw [qH,qH,h]
def pE(lt:Nat→Nat→Bool)(p:Array Nat)(k:Nat):Prop:=∀i j,i≤j→j<k→Le lt (P p i) (P p j)
def rK(lt:Nat→Nat→Bool)(p:Array Nat)(k:Nat):Prop:=∀i j,i≤j→j<k→Le lt (P p j) (P p i)
theorem pG{p:Array Nat}{i j:Nat}(hj:j≤p.size)(k:Nat):P (kas_rev p i j) k=if i≤k∧k<j then P p (i+j-1-k) else P p k:=by
 have e:=getElem?_mirror_all (xs:=p) (i:=i) hj k;unfold kas_rev
 split
 ·rename_i h;rw [if_pos h] at e;exact xB e
 ·rename_i h;rw [if_neg h] at e;exact xB e
theorem eC(p:Array Nat)(i j:Nat):(kas_rev p i j).Perm p:=mirror_perm _ _ _ _
theorem qa(p:Array Nat)(i j:Nat):(kas_rev p i j).size=p.size:=mirror_size _ _ _ _
include O
theorem Dj{p:Array Nat}:pE lt p 1:=λi j h1 h2=>by
 have e:i=j:=by omega
 subst e;exact O.rf _
theorem vV{p:Array Nat}:∀(f n:Nat),1≤n→pE lt p n→pE lt p (ev lt (kas_asc p f n))∧n≤ev lt (kas_asc p f n)∧ev lt (kas_asc p f n)≤n+f∧
  (ev lt (kas_asc p f n)<n+f→lt (P p (ev lt (kas_asc p f n))) (P p (ev lt (kas_asc p f n)-1))=true)
 |0,n,h1,h=>⟨h,bh _,bh _,λz=>absurd z (fB _)⟩
 |f+1,n,h1,h=>by
  have e:ev lt (kas_asc p (f+1) n)=ev lt (if lt (P p n) (P p (n-1))=true then KasT.ret n else kas_asc p f (n+1)):=rfl;rw [e];cases c:lt (P p n) (P p (n-1)) with
  |true=>
   rw [if_pos rfl];exact ⟨h,bh _,by show n≤_;omega,λ_=>c⟩
  |false=>
   rw [if_neg bY]
   have up:pE lt p (n+1):=λi j h2 h3=>by
    by_cases hj:j<n
    ·exact h i j h2 hj
    ·by_cases hi:i=j
     ·subst hi;exact O.rf _
     ·have:j=n:=by omega
      subst this;exact O.eQ (h i (j-1) (by omega) (by omega)) c
   obtain ⟨a,b,d,e⟩:=vV f (n+1) (by omega) up
   exact ⟨a,by omega,by omega,λz=>e (by omega)⟩
theorem rA:∀(f:Nat)(p:Array Nat)(n q:Nat),1≤n→q+1≤n→n+f≤p.size→rK lt p n→(∀i,n-(q+1)≤i→i<n→Le lt (P p i) (P p (n-1)))→
  ∃p' n' q',ev lt (kas_desc f p n q)=(p',n',q')∧p'.Perm p∧n≤n'∧n'≤n+f∧q'+1≤n'∧rK lt p' n'∧(∀i,n'-(q'+1)≤i→i<n'→Le lt (P p' i) (P p' (n'-1)))
 |0,p,n,q,h1,hq,hz,h,he=>⟨p,n,q,rfl, .refl _,bh _,bh _,hq,h,he⟩
 |f+1,p,n,q,h1,hq,hz,h,he=>by
  have e:ev lt (kas_desc (f+1) p n q)=ev lt (if lt (P p n) (P p (n-1))=true then (if q>0 then kas_desc f (kas_rev p (n-(q+1)) n) (n+1) 0 else kas_desc f p (n+1) 0)
    else KasT.ask (P p (n-1)) (P p n) λd=>if d=true then KasT.ret (p,n,q) else kas_desc f p (n+1) (q+1)):=rfl
  rw [e];cases c:lt (P p n) (P p (n-1)) with
  |true=>
   rw [if_pos rfl]
   have up:rK lt p (n+1):=λi j h2 h3=>by
    by_cases hj:j<n
    ·exact h i j h2 hj
    ·by_cases hi:i=j
     ·subst hi;exact O.rf _
     ·have:j=n:=by omega
      subst this;exact O.eQ (O.as c) (h i (j-1) (by omega) (by omega))
   by_cases OM:q>0
   ·rw [if_pos OM]
    have hk:∀i,i<n+1→Le lt (P (kas_rev p (n-(q+1)) n) i) (P p i)∧Le lt (P p i) (P (kas_rev p (n-(q+1)) n) i):=λi hi=>by
     rw [pG (by omega)]
     split
     ·rename_i hh
      have a1:=he i hh.1 hh.2;have a2:=he (n-(q+1)+n-1-i) (by omega) (by omega)
      have b1:=h i (n-1) (by omega) (by omega)
      have b2:=h (n-(q+1)+n-1-i) (n-1) (by omega) (by omega)
      exact ⟨O.eQ a2 b1,O.eQ a1 b2⟩
     ·exact ⟨O.rf _,O.rf _⟩
    have Me:rK lt (kas_rev p (n-(q+1)) n) (n+1):=λi j h2 h3=>O.eQ (hk j h3).1 (O.eQ (up i j h2 h3) (hk i (by omega)).2)
    obtain ⟨p',n',q',e',a,b,d,g,w,v⟩:=rA f (kas_rev p (n-(q+1)) n) (n+1) 0 (by omega) (by omega) (by rw [qa];omega) Me (λi h2 h3=>by
     have:i=n+1-1:=by omega
     rw [this];exact O.rf _)
    exact ⟨p',n',q',e',a.trans (eC _ _ _),by omega,by omega,g,w,v⟩
   ·rw [if_neg OM]
    obtain ⟨p',n',q',e',a,b,d,g,w,v⟩:=rA f p (n+1) 0 (by omega) (by omega) (by omega) up (λi h2 h3=>by
     have:i=n+1-1:=by omega
     rw [this];exact O.rf _)
    exact ⟨p',n',q',e',a,by omega,by omega,g,w,v⟩
  |false=>
   rw [if_neg bY];have e2:ev lt (KasT.ask (P p (n-1)) (P p n) λd=>if d=true then KasT.ret (p,n,q) else kas_desc f p (n+1) (q+1))=ev lt (if lt (P p (n-1)) (P p n)=true then KasT.ret (p,n,q) else kas_desc f p (n+1) (q+1)):=rfl;rw [e2];cases c2:lt (P p (n-1)) (P p n) with
   |true=>
    rw [if_pos rfl];exact ⟨p,n,q,rfl, .refl _,bh _,by omega,hq,h,he⟩
   |false=>
    rw [if_neg bY]
    have up:rK lt p (n+1):=λi j h2 h3=>by
     by_cases hj:j<n
     ·exact h i j h2 hj
     ·by_cases hi:i=j
      ·subst hi;exact O.rf _
      ·have:j=n:=by omega
       subst this;exact O.eQ c2 (h i (j-1) (by omega) (by omega))
    obtain ⟨p',n',q',e',a,b,d,g,w,v⟩:=rA f p (n+1) (q+1) (by omega) (by omega) (by omega) up (λi h2 h3=>by
     show Le lt (P p i) (P p n)
     by_cases hi:i=n
     ·subst hi;exact O.rf _
     ·exact O.eQ (he i (by omega) (by omega)) c)
    exact ⟨p',n',q',e',a,by omega,by omega,g,w,v⟩
theorem FC{p:Array Nat}{n:Nat}(hz:n≤p.size)(h:rK lt p n):pE lt (kas_rev p 0 n) n:=λi j h2 h3=>by
 rw [pG hz,pG hz,if_pos ⟨b9 _,by omega⟩,if_pos ⟨b9 _,h3⟩]
 exact h _ _ (by omega) (by omega)
theorem y2{p:Array Nat}{n nrem:Nat}(h1:1≤n)(hn:n≤nrem)(hz:nrem≤p.size)(h:rK lt p n):
  ∃m p',ev lt (kas_tail3 n nrem p)=(m,p')∧p'.Perm p∧1≤m∧m≤nrem∧pE lt p' m:=by
 unfold kas_tail3;rw [i6];obtain ⟨a,b,c,_⟩:=vV O (p:=kas_rev p 0 n) (nrem-n) n h1 (FC O (by omega) h)
 exact ⟨_,_,rfl,eC _ _ _,by omega,by omega,a⟩
theorem nQ{p:Array Nat}{n nrem:Nat}(h1:1≤n)(hn:n<nrem)(hz:nrem≤p.size)(h:rK lt p (n+1)):
  ∃m p',ev lt (kas_descPart n nrem p)=(m,p')∧p'.Perm p∧1≤m∧m≤nrem∧pE lt p' m:=by
 unfold kas_descPart;rw [i6]
 obtain ⟨p',n',q',e',a,b,d,g,w,v⟩:=rA O (nrem-(n+1)) p (n+1) 0 (by omega) (by omega) (by omega) h (λi h2 h3=>by
  have:i=n+1-1:=by omega
  rw [this];exact O.rf _)
 rw [e'];dsimp only;have Lf:p'.size=p.size:=a.size_eq
 by_cases hq:q'>0
 ·rw [if_pos hq]
  have hk:∀i,i<n'→Le lt (P (kas_rev p' (n'-(q'+1)) n') i) (P p' i)∧Le lt (P p' i) (P (kas_rev p' (n'-(q'+1)) n') i):=λi hi=>by
   rw [pG (by omega)]
   split
   ·rename_i hh
    have a1:=v i hh.1 hh.2;have a2:=v (n'-(q'+1)+n'-1-i) (by omega) (by omega)
    have b1:=w i (n'-1) (by omega) (by omega)
    have b2:=w (n'-(q'+1)+n'-1-i) (n'-1) (by omega) (by omega)
    exact ⟨O.eQ a2 b1,O.eQ a1 b2⟩
   ·exact ⟨O.rf _,O.rf _⟩
  have Me:rK lt (kas_rev p' (n'-(q'+1)) n') n':=λi j h2 h3=>O.eQ (hk j h3).1 (O.eQ (w i j h2 h3) (hk i (by omega)).2)
  obtain ⟨m,p2,e2,a2,b2,c2,d2⟩:=y2 O (n:=n') (nrem:=nrem) (p:=kas_rev p' (n'-(q'+1)) n') (by omega) (by omega) (by rw [qa];omega) Me
  exact ⟨m,p2,e2,a2.trans ((eC _ _ _).trans a),b2,c2,d2⟩
 ·rw [if_neg hq]
  obtain ⟨m,p2,e2,a2,b2,c2,d2⟩:=y2 O (n:=n') (nrem:=nrem) (p:=p') (by omega) (by omega) (by omega) w
  exact ⟨m,p2,e2,a2.trans a,b2,c2,d2⟩
theorem BW{p:Array Nat}{nrem:Nat}(hn:1≤nrem)(hz:nrem≤p.size):∃m p',ev lt (kas_count nrem p)=(m,p')∧p'.Perm p∧1≤m∧m≤nrem∧pE lt p' m:=by
 unfold kas_count;rw [i6];obtain ⟨a,b,c,d⟩:=vV O (p:=p) (nrem-1) 1 (bh _) (Dj O);generalize ev lt (kas_asc p (nrem-1) 1)=n at a b c d
 by_cases OG:n=nrem
 ·rw [if_pos (by simpa using OG)]
  exact ⟨_,_,rfl, .refl _,by omega,by omega,a⟩
 ·rw [if_neg (by simpa using OG)]
  have b4:=d (by omega)
  by_cases h2:n>1
  ·rw [if_pos h2]
   have e:ev lt (KasT.ask (P p 0) (P p (n-1)) λc=>if c=true then KasT.ret (n,p) else kas_descPart n nrem (kas_rev p 0 n))=ev lt (if lt (P p 0) (P p (n-1))=true then KasT.ret (n,p) else kas_descPart n nrem (kas_rev p 0 n)):=rfl;show ∃m p',ev lt (KasT.ask (P p 0) (P p (n-1)) λc=>if c=true then KasT.ret (n,p) else kas_descPart n nrem (kas_rev p 0 n))=(m,p')∧_;rw [e];cases hc:lt (P p 0) (P p (n-1)) with
   |true=>
    rw [if_pos rfl];exact ⟨_,_,rfl, .refl _,by omega,by omega,a⟩
   |false=>
    rw [if_neg bY];have Iq:∀i j,i<n→j<n→Le lt (P p i) (P p j):=λi j hi hj=>O.eQ (a i (n-1) (by omega) (by omega)) (O.eQ hc (a 0 j (by omega) hj))
    have ds:rK lt (kas_rev p 0 n) (n+1):=λi j h3 h4=>by
     rw [pG (by omega),pG (by omega)]
     by_cases hj:j<n
     ·rw [if_pos ⟨b9 _,hj⟩,if_pos ⟨b9 _,by omega⟩]
      exact Iq _ _ (by omega) (by omega)
     ·have T7:j=n:=by omega
      subst T7;rw [if_neg (by omega)]
      by_cases hi:i<j
      ·rw [if_pos ⟨b9 _,hi⟩]
       exact O.eQ (O.as b4) (Iq _ _ (by omega) (by omega))
      ·rw [if_neg (by omega)]
       have:i=j:=by omega
       subst this;exact O.rf _
    obtain ⟨m,p2,e2,a2,b2,c2,d2⟩:=nQ O (n:=n) (nrem:=nrem) (p:=kas_rev p 0 n) (by omega) (by omega) (by rw [qa];omega) ds
    exact ⟨m,p2,e2,a2.trans (eC _ _ _),b2,c2,d2⟩
  ·rw [if_neg h2]
   have h1:n=1:=by omega
   subst h1
   have ds:rK lt p (1+1):=λi j h3 h4=>by
    by_cases hi:i=j
    ·subst hi;exact O.rf _
    ·have hj:j=1:=by omega
     have kD:i=0:=by omega
     subst hj kD;exact O.as b4
   exact nQ O (n:=1) (nrem:=nrem) (p:=p) (by omega) (by omega) hz ds
theorem pZ{p:Array Nat}{k:Nat}(h:pE lt p k):∀(f l r:Nat),r≤l+f→l≤r→r≤k→(∀i,i<l→Le lt (P p i) (P p k))→(∀i,r≤i→i<k→lt (P p k) (P p i)=true)→
  ev lt (kas_place p k f l r)≤k∧(∀i,i<ev lt (kas_place p k f l r)→Le lt (P p i) (P p k))∧(∀i,ev lt (kas_place p k f l r)≤i→i<k→lt (P p k) (P p i)=true)
 |0,l,r,h1,h2,h3,h4,h5=>by
  have e:l=r:=by omega
  subst e;exact ⟨h3,h4,h5⟩
 |f+1,l,r,h1,h2,h3,h4,h5=>by
  by_cases OE:l≥r
  ·have e:ev lt (kas_place p k (f+1) l r)=l:=by
    show ev lt (if l≥r then KasT.ret l else _)=l;rw [if_pos OE];rfl
   have e2:l=r:=by omega
   rw [e];subst e2;exact ⟨h3,h4,h5⟩
  ·have e:ev lt (kas_place p k (f+1) l r)=ev lt (if lt (P p k) (P p ((l+r) / 2))=true then kas_place p k f l ((l+r) / 2) else kas_place p k f ((l+r) / 2+1) r):=by
    show ev lt (if l≥r then KasT.ret l else _)=_;rw [if_neg OE];rfl
   rw [e];cases c:lt (P p k) (P p ((l+r) / 2)) with
   |true=>
    rw [if_pos rfl];refine pZ h f l ((l+r) / 2) (by omega) (by omega) (by omega) h4 λi hi hk=>?_
    rcases O.neg _ (P p i) _ c with z|z
    ·exact z
    ·have:=h ((l+r) / 2) i hi hk
     unfold Le at this;rw [this] at z;cases z
   |false=>
    rw [if_neg bY];exact pZ h f ((l+r) / 2+1) r (by omega) (by omega) h3 (λi hi=>O.eQ (h i ((l+r) / 2) (by omega) (by omega)) c) h5
theorem A4:∀(f:Nat)(p:Array Nat)(k:Nat),k+f≤p.size→pE lt p k→∃p',ev lt (kas_bin f p k)=p'∧p'.Perm p∧pE lt p' (k+f)
 |0,p,k,_,h=>⟨p,rfl, .refl _,h⟩
 |f+1,p,k,hz,h=>by
  have e:ev lt (kas_bin (f+1) p k)=ev lt (kas_bin f (bubble p k (k-ev lt (kas_place p k k 0 k))) (k+1)):=by
   show ev lt ((kas_place p k k 0 k).bind λl=>kas_bin f (bubble p k (k-l)) (k+1))=_;rw [i6]
  rw [e];obtain ⟨a,b,c⟩:=pZ O h k 0 k (by omega) (b9 _) (bh _) (λi hi=>absurd hi (Nat.not_lt_zero _)) (λi h1 h2=>absurd h2 (by omega))
  generalize ev lt (kas_place p k k 0 k)=l at a b c
  have hb:∀x,P (bubble p k (k-l)) x=if x=l then P p k else if l<x∧x≤k then P p (x-1) else P p x:=λx=>by
   have q:=getElem?_bubble (xs:=p) (src:=k) (by omega) (k-l) (by omega) x
   have e1:k-(k-l)=l:=by omega
   rw [e1] at q
   split
   ·rename_i hh;rw [if_pos hh] at q;exact xB q
   ·rename_i hh
    rw [if_neg hh] at q
    split
    ·rename_i h2;rw [if_pos h2] at q;exact xB q
    ·rename_i h2;rw [if_neg h2] at q;exact xB q
  have up:pE lt (bubble p k (k-l)) (k+1):=λi j h1 h2=>by
   rw [hb,hb]
   by_cases e1:i=l
   ·rw [if_pos e1]
    by_cases e2:j=l
    ·rw [if_pos e2];exact O.rf _
    ·rw [if_neg e2,if_pos ⟨by omega,by omega⟩]
     exact O.as (c (j-1) (by omega) (by omega))
   ·rw [if_neg e1]
    by_cases e2:j=l
    ·rw [if_pos e2,if_neg (by omega)]
     exact b i (by omega)
    ·rw [if_neg e2]
     by_cases e3:l<i
     ·rw [if_pos ⟨e3,by omega⟩,if_pos ⟨by omega,by omega⟩]
      exact h _ _ (by omega) (by omega)
     ·rw [if_neg (by omega)]
      by_cases e4:l<j
      ·rw [if_pos ⟨e4,by omega⟩]
       exact h _ _ (by omega) (by omega)
      ·rw [if_neg (by omega)]
       exact h _ _ h1 (by omega)
  obtain ⟨p',e',a',b'⟩:=A4 f (bubble p k (k-l)) (k+1) (by rw [bubble_size];omega) up
  exact ⟨p',e',a'.trans (bubble_perm _ _ _),by rw [show k+(f+1)=k+1+f by omega];exact b'⟩
theorem FK{n:Nat}(hn:1≤n):∃p,ev lt (kas_sort n)=p∧p.toList.Perm (List.range n)∧p.toList.Pairwise (Le lt):=by
 have pw:∀p:Array Nat,p.size=n→pE lt p n→p.toList.Pairwise (Le lt):=λp hz h=>by
  rw [List.pairwise_iff_getElem];intro i j hi hj uz;have kD:i<p.size:=by simpa using hi
  have OB:j<p.size:=by simpa using hj
  have q:=h i j (by omega) (by omega)
  unfold P at q;simpa [Array.getD,kD,OB] using q
 unfold kas_sort;rw [i6];obtain ⟨m,p',e',a,b,c,d⟩:=BW O (p:=List.toArray (List.range n)) hn (by simp)
 rw [e'];dsimp only;have Lf:p'.size=n:=by rw [a.size_eq];simp
 have pl:p'.toList.Perm (List.range n):=by simpa using AU.mp a
 by_cases hm:m<n
 ·rw [if_pos hm]
  obtain ⟨p2,e2,a2,b2⟩:=A4 O (n-max m 1) p' (max m 1) (by omega) (by rw [show max m 1=m by omega];exact d)
  refine ⟨p2,e2,(AU.mp a2).trans pl,pw p2 (by rw [a2.size_eq,Lf]) ?_⟩
  rw [show max m 1+(n-max m 1)=n by omega] at b2
  exact b2
 ·rw [if_neg hm]
  have:m=n:=by omega
  subst this;exact ⟨p',rfl,pl,pw p' Lf d⟩
end
def e8{α:Type}(n:Nat)(Q:α→Prop):KasT α→Prop
 | .ret a=>Q a
 | .ask i j k=>i<n∧j<n∧∀b,e8 n Q (k b)
theorem fN{α:Type}{n:Nat}{Q Q':α→Prop}(h:∀a,Q a→Q' a):∀t:KasT α,e8 n Q t→e8 n Q' t
 | .ret a,z=>h a z
 | .ask _ _ k,z=>⟨z.1,z.2.1,λb=>fN h (k b) (z.2.2 b)⟩
theorem allI_bind{α β:Type}{n:Nat}{Q:β→Prop}{f:α→KasT β}:∀t:KasT α,e8 n (λa=>e8 n Q (f a)) t→e8 n Q (t.bind f)
 | .ret _,z=>z
 | .ask _ _ k,z=>⟨z.1,z.2.1,λb=>allI_bind (k b) (z.2.2 b)⟩
def lQ(n:Nat)(p:Array Nat):Prop:=0<n∧∀x∈p.toList,x<n
theorem lQ.at{n:Nat}{p:Array Nat}(h:lQ n p)(i:Nat):p.getD i 0<n:=by
 rw [qH];cases q:p[i]? with
 |none=>exact h.1
 |some x=>
  refine h.2 x ?_;rw [←pj] at q;exact gD q
theorem lQ.perm{n:Nat}{p q:Array Nat}(h:lQ n p)(hp:q.Perm p):lQ n q:=⟨h.1,λx hx=>h.2 x ((AU.mp hp).mem_iff.mp hx)⟩
theorem rQ{n:Nat}{p:Array Nat}(h:lQ n p):∀f m,e8 n (λ_=>True) (kas_asc p f m)
 |0,_=>trivial
 |f+1,m=>⟨h.at _,h.at _,λb=>by cases b with|true=>exact trivial|false=>exact rQ h f (m+1)⟩
theorem lG{n:Nat}:∀(f:Nat)(p:Array Nat)(m q:Nat),lQ n p→e8 n (λr=>lQ n r.1) (kas_desc f p m q)
 |0,p,m,q,h=>h
 |f+1,p,m,q,h=>⟨h.at _,h.at _,λb=>by
  cases b with
  |true=>
   show e8 n _ (if q>0 then kas_desc f (kas_rev p (m-(q+1)) m) (m+1) 0 else kas_desc f p (m+1) 0)
   split
   ·exact lG f _ _ _ (h.perm (eC _ _ _))
   ·exact lG f _ _ _ h
  |false=>
   refine ⟨h.at _,h.at _,λd=>?_⟩;cases d with
   |true=>exact h
   |false=>exact lG f _ _ _ h⟩
theorem vC{n:Nat}{p:Array Nat}(h:lQ n p)(m nrem:Nat):e8 n (λr=>lQ n r.2) (kas_tail3 m nrem p):=
 allI_bind _ (fN (λ_ _=>h.perm (eC _ _ _)) _ (rQ (h.perm (eC _ _ _)) _ _))
theorem me{n:Nat}{p:Array Nat}(h:lQ n p)(m nrem:Nat):e8 n (λr=>lQ n r.2) (kas_descPart m nrem p):=
 allI_bind _ (fN (λr hr=>by
  show e8 n _ (if r.2.2>0 then _ else _)
  split
  ·exact vC (hr.perm (eC _ _ _)) _ _
  ·exact vC hr _ _) _ (lG _ _ _ _ h))
theorem zp{n:Nat}{p:Array Nat}(h:lQ n p)(nrem:Nat):e8 n (λr=>lQ n r.2) (kas_count nrem p):=
 allI_bind _ (fN (λm _=>by
  show e8 n _ (if (m==nrem)=true then _ else _)
  split
  ·exact h
  ·split
   ·refine ⟨h.at _,h.at _,λb=>?_⟩
    cases b with
    |true=>exact h
    |false=>exact me (h.perm (eC _ _ _)) _ _
   ·exact me h _ _) _ (rQ h _ _))
theorem m8{n:Nat}{p:Array Nat}(h:lQ n p)(k:Nat):∀f l r,e8 n (λ_=>True) (kas_place p k f l r)
 |0,_,_=>trivial
 |f+1,l,r=>by
  show e8 n _ (if l≥r then _ else _)
  split
  ·exact trivial
  ·refine ⟨h.at _,h.at _,λb=>?_⟩
   cases b with
   |true=>exact m8 h k f _ _
   |false=>exact m8 h k f _ _
theorem xK{n:Nat}:∀(f:Nat)(p:Array Nat)(k:Nat),lQ n p→e8 n (λ_=>True) (kas_bin f p k)
 |0,_,_,_=>trivial
 |f+1,p,k,h=>allI_bind _ (fN (λl _=>xK f _ _ (h.perm (bubble_perm _ _ _))) _ (m8 h k _ _ _))
theorem CQ{n:Nat}(hn:0<n):e8 n (λ_=>True) (kas_sort n):=
 allI_bind _ (fN (λr hr=>by
  show e8 n _ (if r.1<n then _ else _)
  split
  ·exact xK _ _ _ hr
  ·exact trivial) _ (zp (n:=n) (p:=List.toArray (List.range n)) ⟨hn,λx hx=>cm.mp (by simpa using hx)⟩ n))
theorem F9{α:Type}{cmp:Nat→Nat→(Bool→Shared→Prop)→Shared→Prop}{lt:Nat→Nat→Bool}{s:Shared}{Q:α→Shared→Prop}{n:Nat}
  (hc:∀i j (C:Bool→Shared→Prop),i<n→j<n→C (lt i j) s→cmp i j C s):∀t:KasT α,e8 n (λ_=>True) t→Q (ev lt t) s→t.kasWp cmp Q s
 | .ret _,_,h=>h
 | .ask i j k,z,h=>hc i j _ z.1 z.2.1 (F9 hc (k (lt i j)) (z.2.2 _) h)
section
variable {prog:Program} {w:World} {A:Around} {E:Value→Shared→Prop} {s:Shared}
theorem yS{a:Addr}{vs:List Value}{n:Nat}{G:PySem.Fin→Shared→Prop}(ho:s.heap.get? a=some (seqObj "list" vs.toArray n))(h2:vs.length<2)
  (h:G (.done (.ret .none)) {s with heap:=sortedHeap s.heap a vs vs.toArray}):wpAny (model prog w) A (Builtin.«list.sort» ⟨[.ref a],[]⟩) G E s:=by
 rw [list_sort_plain];have la:a<s.heap.objs.size:=Heap.lt_size ho;refine wpAny_bind (listItems_at ho rfl (wpAny_bind (listUpdate_at ho rfl ?_)));obtain ⟨e1,mT⟩:∃k,(s.heap.update a (Obj.mapSeq λ_=> #[])).get? a=some (seqObj "list" #[] k):=⟨_,get?_update_seq ho (λ_=> #[])⟩;refine wpAny_bind (seqEpoch_at mT rfl (wpAny_bind (wpAny_newTuple (wpAny_bind (wpAny_newList (wpAny_holding ?_))))));have GN:(((s.heap.update a (Obj.mapSeq λ_=> #[])).push (seqObj "tuple" vs.toArray 0)).push (seqObj "list" #[] 0)).get? a=some (seqObj "list" #[] e1):=Heap.get?_push_of_some _ (Heap.get?_push_of_some _ mT);show wpAny (model prog w) A _ G E {s with heap:=((s.heap.update a (Obj.mapSeq λ_=> #[])).push (seqObj "tuple" vs.toArray 0)).push (seqObj "list" #[] 0)}
 dsimp only;have lz:vs.toArray.size<2:=by simpa using h2
 rw [if_pos lz,if_pos lz];refine wpAny_bind (wpAny_pure ?_);rw [StateT.run_pure];refine wpAny_bind (wpAny_pure ?_);dsimp only
 have ez:(arrOf (SortSt.mk' general' (vs.toArray.zip vs.toArray) #[] 7 none)).map (·.2)=vs.toArray:=by
  show (vs.toArray.zip vs.toArray).map (·.2)=vs.toArray;apply Array.toList_inj.mp;simp [List.map_snd_zip]
 refine wpAny_bind (seqEpoch_at GN rfl (wpAny_bind (listUpdate_at GN rfl ?_ (hsz2:=by rw [ez];rw [sizeLine_eq];omega))))
 simp only [bne_self_eq_false,vK,if_false];have h':=h;unfold sortedHeap at h';rw [ez];exact wpAny_pure h'
theorem uG{l:Addr}{vs:List Value}{G:Value→Shared→Prop}(hl:s.heap.IsList l vs.toArray)(h2:vs.length<2)(h:G (.ref (s.heap.objs.size+1)) {s with heap:=sortedAll s.heap vs vs.toArray}):
  wpAny (model prog w) A (call (.builtin "sorted") [.ref l]) G E s:=by
 refine Calls.call_function_entry kind_sorted plain_sorted entry_sorted (args_sorted1 (.ref l)) ?_;unfold Builtin.«sorted»;have l2:vs.length≤sizeLine:=by rw [sizeLine_eq];omega
 refine wpAny_bind (m:=checkCount "sorted" 1 1 _) (wpAny_pure (wpAny_bind (collect_list hl (wpAny_bind (wpAny_newList ?_ l2)) l2)));have z1:((s.heap.push (seqObj "list" #[] 0)).update s.heap.objs.size (Obj.mapSeq (·++vs.toArray))).objs.size=s.heap.objs.size+1:=by rw [Heap.size_update,size_push']
 have z2:(((s.heap.push (seqObj "list" #[] 0)).update s.heap.objs.size (Obj.mapSeq (·++vs.toArray))).push (seqObj "list" vs.toArray 0)).get? (s.heap.objs.size+1)=some (seqObj "list" vs.toArray 0):=by
  rw [←z1];exact Heap.get?_push_size _ rfl
 show wpAny (model prog w) _ _ _ E {s with heap:=((s.heap.push (seqObj "list" #[] 0)).update s.heap.objs.size (Obj.mapSeq (·++vs.toArray))).push (seqObj "list" vs.toArray 0)}
 rw [z1];exact wpAny_bind (wpAny_holding (wpAny_call_entry slot_list_sort ⟨_,z2,rfl⟩ entry_list_sort (yS z2 h2 ⟨_,rfl,wpAny_pure ⟨_,rfl,h⟩⟩) (args_list_sort _)))
end
end KS
namespace L2
open PySem PySem.Spec PyProof.Rows
section
variable {X:Cx} {pins:List (Addr×Obj)} {σ:St} {H:Hp} {s:Shared} {h':Heap}
theorem Inv.Lo{t':Nat}{t:Addr}{o:HO}(I:Inv X pins σ H s)(k:∀b o,b≠X.env.locals→s.heap.get? b=some o→h'.get? b=some o)(ns:∀m,s.heap.Ns X.env.locals m→h'.Ns X.env.locals m)
  (ht:s.heap.get? t=none) (nt:H t=none) (new:cu X.prog X.w (upd H t o) h' t o):Inv X pins σ (upd H t o) {s with heap:=h',toks:=t'}:=by
 have up:∀b u,H b=some u→upd H t o b=some u:=λb u e=>by rw [aC (aP e nt)];exact e
 have nL:∀b u,H b=some u→b≠X.env.locals:=λb u e z=>by rw [z,I.free] at e;cases e
 refine I.step (g':=s.gens) (d':=s.drawn) (ch:= []) (λb hb=>by cases hb) (λb o hb _ _ e _=>k b o hb e) (λb o hb _ _ e _=>⟨o.slots,k b o hb e⟩) (λb o _ e n=>?_)
  (λb o _ e=>?_) (λb xs e=>up b _ e) (λb _ _ e=>up b _ e) (λb ps e=>⟨#[],by rw [up b _ e];simp⟩) ns (λb u e=>?_) I.bare
 ·rw [aC (λz=>by rw [z,ht] at e;cases e)];exact n
 ·by_cases hb:b=X.env.locals
  ·obtain ⟨m,hm,_⟩:=I.loc
   obtain ⟨o',_,_,g6,_⟩:=ns m hm;rw [hb];exact ⟨o',g6⟩
  ·exact ⟨o,k b o hb e⟩
 ·by_cases hb:b=t
  ·subst hb
   rw [aw] at e;cases e;exact new
  ·rw [aC hb] at e
   refine (I.hok b u e).oU (λc v hc q=>k c v ?_ q) (λb' q=>up b' _ q) λb' _ q=>up b' _ q
   rcases hc with z|z
   ·rw [z];exact nL b u e
   ·exact nL c _ z
end
def Aq(k:Nat×Nat):List V:= [.int (k.1:Nat), .int (k.2:Nat)]
def BS(H:Hp)(L:List (Addr×(Nat×Nat))):Prop:=∀p∈L,H p.1=some (.tup (Aq p.2))
def g9(a b:Nat×Nat):Bool:=if a.1=b.1 then decide (a.2<b.2) else decide (a.1<b.1)
theorem pS(x y:Nat×Nat):g9 x y=true↔x.1<y.1∨(x.1=y.1∧x.2<y.2):=by
 unfold g9
 by_cases e:x.1=y.1
 ·rw [if_pos e,decide_eq_true_iff]
  omega
 ·rw [if_neg e,decide_eq_true_iff]
  omega
theorem Co(x y z:Nat×Nat)(h:g9 x z=true):g9 x y=true∨g9 y z=true:=by
 rw [pS] at*;rw [pS];omega
theorem EK(x y z:Nat×Nat)(h:g9 x y=true)(h':g9 y z=true):g9 x z=true:=by
 rw [pS] at*;omega
theorem Cp(L:List (Addr×(Nat×Nat))):KS.Ord λi j=>g9 (L.getD i (0,(0,0))).2 (L.getD j (0,(0,0))).2 where
 irr:=λa=>by unfold g9;rw [if_pos rfl];simp
 neg:=λa b c h=>Co _ _ _ h
 tr:=λa b c h h'=>EK _ _ _ h h'
theorem EJ{a b:Nat×Nat}(h:g9 b a=false):Wb.lexLe a b:=by
 unfold g9 at h;unfold Wb.lexLe
 by_cases e:b.1=a.1
 ·rw [if_pos e] at h
  have:=of_decide_eq_false h
  right;omega
 ·rw [if_neg e] at h
  have:=of_decide_eq_false h
  left;omega
theorem GW{prog:Program}{w:World}{A:Around}{E:Value→Shared→Prop}{s:Shared}{x y:Addr}{a1 a2 b1 b2:Int}{t1 t2 u1 u2:Tok}{C:Bool→Shared→Prop}
  (hx:IsTup s.heap x [.int a1 t1, .int a2 t2].toArray) (hy:IsTup s.heap y [.int b1 u1, .int b2 u2].toArray)
  (h:C (if a1=b1 then decide (a2<b2) else decide (a1<b1)) s):wpAny (model prog w) A (keyLt' (tuples' true) (.ref x) (.ref y)) C E s:=by
 obtain ⟨ox,Ug,_,nx,dx⟩:=hx;obtain ⟨oy,Uh,_,ny,dy⟩:=hy;refine PySem.W.kat_lt Ug dx Uh dy ?_;refine PySem.W.kat_cons (SeqAt.EqAt.int_int a1 t1 b1 u1 prog w _ _ ?_)
 by_cases e1:a1=b1
 ·rw [if_pos e1] at h
  rw [show (a1==b1)=true by simpa using e1]
  refine PySem.W.kat_yes (PySem.W.kat_cons (SeqAt.EqAt.int_int a2 t2 b2 u2 prog w _ _ ?_))
  by_cases e2:a2=b2
  ·rw [show (a2==b2)=true by simpa using e2]
   refine PySem.W.kat_yes (PySem.W.kat_nil ?_);rw [show decide (a2<b2)=false by simp;omega] at h
   simpa using h
  ·rw [show (a2==b2)=false by simpa using e2]
   refine PySem.W.kat_no (PySem.W.kat_one _ _ ?_);exact lt_int h
 ·rw [if_neg e1] at h
  rw [show (a1==b1)=false by simpa using e1]
  exact PySem.W.kat_no (oneLt_int h)
section
variable {X:Cx}
theorem zE{α:Type}{L:List α}{d:α}{π:List Nat}(h:π.Perm (List.range L.length)):(π.map λi=>L.getD i d).Perm L:=by
 have e:(List.range L.length).map (λi=>L.getD i d)=L:=by
  apply List.ext_getElem?;intro i;rw [eJ]
  by_cases hi:i<L.length
  ·rw [bq (by simpa using hi),bq hi]
   simp [hi]
  ·rw [j3 (by simp;omega),j3 (by omega)];rfl
 have:=h.map (λi=>L.getD i d)
 rw [e] at this;exact this
theorem tY:∀{as:List Addr}{us:List Value},Vals (as.map V.ref) us→us=as.map Value.ref
 | [],_, .nil=>rfl
 |a::as,_, .cons r t=>by cases r;rw [tY t];rfl
theorem tL:∀as:List Addr,Vals (as.map V.ref) (as.map Value.ref)
 | []=> .nil
 |a::as=> .cons rfl (tL as)
theorem Hk{P:Program}{w:World}{H:Hp}{h:Heap}{a:Addr}{o:HO}(x:cu P w H h a o):∃u,h.get? a=some u:=by
 induction o with
 |lst xs=>obtain ⟨_,_,_,_,e⟩:=x;exact ⟨_,e⟩
 |tup xs=>obtain ⟨_,_,_,ob,e,_⟩:=x;exact ⟨_,e⟩
 |dK cW=>obtain ⟨_,_,_,_,ob,_,_,e,_⟩:=x;exact ⟨_,e⟩
 |dT cW=>obtain ⟨_,_,_,_,ob,_,_,e,_⟩:=x;exact ⟨_,e⟩
 |set S n=>obtain ⟨ob,_,_,_,e,_⟩:=x;exact ⟨_,e⟩
 |ins C dx fs=>obtain ⟨_,_,_,e,_⟩:=x;exact ⟨_,e⟩
 |own y=>exact x
 |xd fs=>obtain ⟨_,⟨od,_,_,e,_⟩,_⟩:=x;exact ⟨_,e⟩
 |rng lo hi=>obtain ⟨_,_,_,e⟩:=x;exact ⟨_,e⟩
 |mP ob u ih=>exact ⟨_,x.1⟩
 |y3 ps=>exact ⟨_,x⟩
 |met f y=>exact ⟨_,x⟩
 |ext φ=>exact x.2.1
theorem vo{pins:List (Addr×Obj)}{σ:St}{H:Hp}{s:Shared}{a:Addr}{k:Nat×Nat}(I:Inv X pins σ H s)(h:H a=some (.tup (Aq k))):
  ∃t u,IsTup s.heap a [.int (k.1:Nat) t, .int (k.2:Nat) u].toArray:=by
 obtain ⟨its,r,p,_⟩:=I.tuple (fi.of h);obtain ⟨u1,u2,rfl,⟨t,rfl⟩,⟨u,rfl⟩⟩:=Vals.two r;exact ⟨t,u,p⟩
theorem uv(hu:X.A.units+64<cLine):dB X (.builtin "sorted") (λxs H Q=>∃(p:Addr)(L:List (Addr×(Nat×Nat))),xs= [.ref p]∧cc X.K H p (L.map λe=>V.ref e.1)∧BS H L∧L.length<64∧
  ∀(q:Addr)(M:List (Addr×(Nat×Nat))),H q=none→M.Perm L→(M.map (·.2)).Pairwise Wb.lexLe→Q (.ref q) (upd H q (.lst (M.map λe=>V.ref e.1)))):=by
 intro pins s σ H xs us Q I rv h;obtain ⟨p,L,rfl,hp,hL,hz,q⟩:=h;obtain ⟨u,rfl,ru⟩:=rv.one;cases ru;obtain ⟨its,r,pl,_⟩:=I.list hp;have hl:=r.length;rw [aJ] at hl;have cG:64≤sizeLine:=by decide
 have ei:its=L.map λe=>Value.ref e.1:=by
  have:=tY (as:=L.map (·.1)) (us:=its) (by rw [fK];exact r)
  rw [this,fK];rfl
 by_cases h2:L.length<2
 ·refine KS.uG pl.isList (by omega) ?_
  obtain ⟨e,he⟩:=sortedAll_at s.heap its its.toArray;have fr:H (s.heap.objs.size+1)=none:=I.hok.fresh (pD _);refine ⟨.ref (s.heap.objs.size+1),_,I.laid (t':=s.toks) (λb o hb=>sortedAll_old hb) (pD _) (o:= .lst (L.map λe=>V.ref e.1)) ⟨by rw [aJ];omega,its,e,r,he⟩,rfl,q _ L fr (.refl _) ?_⟩
  match L,h2 with
  | [],_=>exact .nil
  | [_],_=>exact List.pairwise_singleton _ _
 ·obtain ⟨m,F⟩:=I.fr
  have N:=Cy (g:=X.base) (h:=s.heap) (L:=X.env.locals);refine PySem.W.kat_sorted F N pl.isList (by omega) (by omega) λD e1 h' F' N' hD=>?_
  have kept:∀b o,b≠X.env.locals→s.heap.get? b=some o→h'.get? b=some o:=λb o hb e=>by
   cases qb:X.base.get? b with
   |some u=>
    have:=I.bk b u qb
    rw [e] at this;cases this;exact F'.keep b _ qb
   |none=>exact (N' (b,o) (bV _ (jF hb qb e))).1
  have nL:∀b u,H b=some u→b≠X.env.locals:=λb u e z=>by rw [z,I.free] at e;cases e
  have AO:∀i,i<L.length→∃t u,its.getD i Value.none= .ref (L.getD i (0,(0,0))).1∧IsTup h' (L.getD i (0,(0,0))).1 [.int ((L.getD i (0,(0,0))).2.1:Nat) t, .int ((L.getD i (0,(0,0))).2.2:Nat) u].toArray:=λi hi=>by
   have hm:L.getD i (0,(0,0))∈L:=by
    rw [aK,bq hi];exact mH hi
   obtain ⟨t,u,o,ho,hc,n,hd⟩:=vo I (hL _ hm);refine ⟨t,u,?_,o,kept _ _ (nL _ _ (hL _ hm)) ho,hc,n,hd⟩;rw [ei,aK,eJ,aK,bq hi];rfl
  have tups:PySem.W.KatTups h' its (L.map λe=>Value.int (e.2.1:Nat) 0)∨∃fs:List Value,PySem.W.KatTups h' its fs∧fs.length=L.length∧∀v∈fs,∃i t,v= .int i t:=by
   right
   have go:∀(M:List (Addr×(Nat×Nat))),(∀e∈M,e∈L)→∃fs:List Value,PySem.W.KatTups h' (M.map λe=>Value.ref e.1) fs∧fs.length=M.length∧∀v∈fs,∃i t,v= .int i t:=by
    intro M
    induction M with
    |nil=>exact λ_=>⟨[],PySem.W.KatTups.nil,rfl,λv hv=>by cases hv⟩
    |cons e M ih=>
     intro hM;obtain ⟨fs,a,b,c⟩:=ih λx hx=>hM x (bV _ hx);have he:=hL e (hM e bP);obtain ⟨t,u,o,ho,hc,n,hd⟩:=vo I he;refine ⟨.int (e.2.1:Nat) t::fs,PySem.W.KatTups.cons (kept _ _ (nL _ _ he) ho) hc hd rfl a,by simp [b],λv hv=>?_⟩
     rcases bQ.mp hv with z|z
     ·exact ⟨_,_,z⟩
     ·exact c v z
   rw [ei];exact go L λ_ h=>h
  obtain ⟨fs,kt,kl,ki⟩:=tups.elim (λz=>⟨_,z,by simp,λv hv=>by obtain ⟨e,_,rfl⟩:=cT.mp hv;exact ⟨_,_,rfl⟩⟩) id
  refine PySem.W.kat_kind (T:= .type "int") kt (by omega) (λv hv=>by obtain ⟨i,t,rfl⟩:=ki v hv;exact .now) (by decide) ?_
  have hb:(Value.type "int" !=Value.type "tuple")=true:=by decide
  rw [hb];have hn:its.length=L.length:=by omega
  rw [hn];obtain ⟨π,Tp,pp,ps⟩:=KS.FK (Cp L) (n:=L.length) (by omega)
  refine KS.F9 (lt:=λi j=>g9 (L.getD i (0,(0,0))).2 (L.getD j (0,(0,0))).2) (n:=L.length) (λi j C hi hj hC=>?_) _ (KS.CQ (by omega)) ?_
  ·obtain ⟨t1,t2,g1,k1⟩:=AO i hi
   obtain ⟨u1,u2,g2,k2⟩:=AO j hj;unfold PySem.W.kas_ask;rw [g1,g2];refine GW k1 k2 ?_
   have e:(if ((L.getD i (0,(0,0))).2.1:Int)=((L.getD j (0,(0,0))).2.1:Int) then decide (((L.getD i (0,(0,0))).2.2:Int)<((L.getD j (0,(0,0))).2.2:Int)) else decide (((L.getD i (0,(0,0))).2.1:Int)<((L.getD j (0,(0,0))).2.1:Int)))
     =g9 (L.getD i (0,(0,0))).2 (L.getD j (0,(0,0))).2:=by
    unfold g9;simp only [Int.ofNat_inj,Int.ofNat_lt]
   rw [e];exact hC
  ·show PySem.W.KasFin _ _ _ _ _ _ _ _
   rw [Tp];refine PySem.W.KasFin.intro F' N' (.head λp hp=>bZ (hD p hp)) λh2 c F2 N2=>?_
   have Lm:∀b o,b≠X.env.locals→s.heap.get? b=some o→h2.get? b=some o:=λb o hb e=>by
    cases qb:X.base.get? b with
    |some u=>
     have:=I.bk b u qb
     rw [e] at this;cases this;exact F2.keep b _ qb
    |none=>exact (N2 (b,o) (bV _ (jF hb qb e))).1
   obtain ⟨_,Od,TB⟩:=N' (D,seqObj "list" #[] e1) bP
   have Of:s.heap.get? D=none:=by
    cases qd:s.heap.get? D with
    |none=>rfl
    |some o=>exact absurd (hD (D,o) (jF Od TB qd)) (fB _)
   have Oc:H D=none:=by
    cases qd:H D with
    |none=>rfl
    |some o=>exact absurd Od (λ_=>by
      obtain ⟨o',g6⟩:=Hk (I.hok D o qd);rw [Of] at g6;cases g6)
   have Wx:∀m',s.heap.Ns X.env.locals m'→h2.Ns X.env.locals m':=λm' yf=>by
    rw [yf.eq_nsMap,←F.ns.eq_nsMap];exact F2.ns
   have Oh:(π.toList.map λi=>L.getD i (0,(0,0))).Perm L:=zE pp;have Oe:=(N2 (D,_) bP).1;refine ⟨.ref D,_,I.Lo (t':=s.toks) Lm Wx Of Oc (o:= .lst ((π.toList.map λi=>L.getD i (0,(0,0))).map λe=>V.ref e.1)) ⟨by rw [aJ,Oh.length_eq];omega,(π.toList.map λi=>its.getD i Value.none),c,?_,Oe⟩,rfl,q D _ Oc Oh ?_⟩
   ·have e:(π.toList.map λi=>its.getD i Value.none)=((π.toList.map λi=>L.getD i (0,(0,0))).map (·.1)).map Value.ref:=by
     rw [fK,fK];refine zg λi hi=>?_;obtain ⟨_,_,g,_⟩:=AO i (cm.mp (pp.mem_iff.mp hi));exact g
    rw [e,show (λe:Addr×(Nat×Nat)=>V.ref e.1)=V.ref∘(·.1) from rfl,←fK];exact tL _
   ·rw [fK,js]
    exact ps.imp λhle=>EJ hle
end
end L2
set_option maxHeartbeats 4000000
namespace L2
open PySem
theorem bU.of{X:Cx}{scope:Scope}(sc:Scope)(e:X.env.scope=sc)(k:scope.kind= .function)(a:∀x∈scope.names,x.2= .local→scope.names.lookup x.1=some .local)(b:∀x∈scope.names,x.2≠ .cell)
  (c:∀x∈scope.names,x.2= .free→sc.names.lookup x.1=some .cell∨sc.names.lookup x.1=some .free):bU X scope:=⟨k,a,b,λx hx hf=>by rw [←e] at c;exact c x hx hf⟩
structure fh (K:PySem.W.Frag) (mg:Str→Option Value) (x:Str) (st:Stmt) (ps:List Str) where
 f:Addr
 fd:FuncData
 F:um K x x st f fd
 b:Binds K fd ps []
 m:mg x=some (.ref f)
theorem aQ{H:Hp}{p:Addr}(h:H p=none)(o:HO):aG H (upd H p o):=λb u q=>by rw [aC (aP q h)];exact q
theorem small{n:Nat}(h:n≤1000):n≤sizeLine:=nB (jP h)
end L2
namespace PySem.SetTable
def lZ(xs:Array Nat):Prop:=∀i j (hj:j<xs.size),i<j→xs[i]! <xs[j]!
theorem Eg{xs:Array Nat}{i d:Nat}(h:i<xs.size):xs.getD i d=xs[i]! :=by
 simp [Array.getD,h]
theorem sI{xs:Array Nat}(R:lZ xs)(j:Nat):∀(fuel lo hi:Nat),hi-lo≤fuel→lo≤hi→hi≤xs.size→(∀i,i<lo→xs[i]! <j)→(∀i,hi≤i→i<xs.size→j≤xs[i]!)→
  lo≤below.go xs j fuel lo hi∧below.go xs j fuel lo hi≤hi∧(∀i,i<below.go xs j fuel lo hi→xs[i]! <j)∧∀i,below.go xs j fuel lo hi≤i→i<xs.size→j≤xs[i]!
 |0,lo,hi,h1,h2,h3,a,b=>by
  have:lo=hi:=by omega
  subst this;rw [below.go];exact ⟨bh _,bh _,a,b⟩
 |fuel+1,lo,hi,h1,h2,h3,a,b=>by
  rw [below.go]
  by_cases c:lo<hi
  ·rw [if_pos c]
   have hm:(lo+hi) / 2<xs.size:=by omega
   dsimp only;rw [Eg hm]
   by_cases d:xs[(lo+hi) / 2]! <j
   ·rw [if_pos d]
    have:=sI R j fuel ((lo+hi) / 2+1) hi (by omega) (by omega) h3 (λi kD=>by
     by_cases e:i=(lo+hi) / 2
     ·rw [e];exact d
     ·have:=R i ((lo+hi) / 2) hm (by omega);omega) b
    exact ⟨by omega,this.2.1,this.2.2⟩
   ·rw [if_neg d]
    have:=sI R j fuel lo ((lo+hi) / 2) (by omega) (by omega) (by omega) a (λi h4 h5=>by
     by_cases e:i=(lo+hi) / 2
     ·rw [e];omega
     ·have:=R ((lo+hi) / 2) i h5 (by omega);omega)
    exact ⟨this.1,by omega,this.2.2⟩
  ·rw [if_neg c]
   have:lo=hi:=by omega
   subst this;exact ⟨bh _,bh _,a,b⟩
theorem fV{xs:Array Nat}(R:lZ xs)(j:Nat):below xs j≤xs.size∧(∀i,i<below xs j→xs[i]! <j)∧∀i,below xs j≤i→i<xs.size→j≤xs[i]! :=by
 have:=sI R j xs.size 0 xs.size (by omega) (b9 _) (bh _) (λi h=>by omega) (λi h1 h2=>by omega)
 exact ⟨this.2.1,this.2.2⟩
theorem below_at{xs:Array Nat}(R:lZ xs){i j:Nat}(h:xs[i]? =some j):below xs j=i:=by
 obtain ⟨hi,e⟩:=zb.mp h;have e':xs[i]! =j:=by simp [hi,e]
 obtain ⟨b1,b2,b3⟩:=fV R j;apply Nat.le_antisymm
 ·apply Classical.byContradiction
  intro c
  have:=b2 i (by omega)
  omega
 ·apply Classical.byContradiction
  intro c;have h1:=b3 (below xs j) (bh _) (by omega)
  have h2:=R (below xs j) i hi (by omega)
  omega
theorem AG{t:SetTable}(R:lZ t.place){i j:Nat}(h:t.place[i]? =some j):t.slot j= .live i:=by
 unfold slot;rw [below_at R h];simp [h]
theorem yR{t:SetTable}(R:lZ t.place)(hd:t.dummies= #[]){j:Nat}(h:∀i:Nat,t.place[i]? ≠some j):t.slot j= .empty:=by
 unfold slot
 have h1:(t.place[below t.place j]? ==some j)=false:=by
  rw [beq_eq_false_iff_ne];exact h _
 dsimp only;rw [if_neg (by rw [h1];exact bY)]
 unfold has;rw [hd];rfl
def kd(mask:Nat)(p:Probe):Probe:=
 if p.more>0 then {p with j:=p.j+1,more:=p.more-1} else
 let (i,perturb):=leap mask p.i p.perturb
 {p with j:=i,more:=runEnd mask i-i,i,perturb}
def qY(mask:Nat)(h:Int):Probe:={j:=bits h%(mask+1),more:=runEnd mask (bits h%(mask+1))-bits h%(mask+1),i:=bits h%(mask+1),perturb:=bits h,dummy:=none}
theorem CY(t:SetTable)(h:Int):t.probeStart h=qY t.mask h:=rfl
def uH(mask:Nat)(h:Int):Nat→Probe
 |0=>qY mask h
 |k+1=>kd mask (uH mask h k)
def bN(mask:Nat)(h:Int)(k:Nat):Nat:=(uH mask h k).j
theorem Dt(h:Int):bits h<2^64:=by
 unfold bits;have h1:0≤h%(2^64:Int):=Int.emod_nonneg _ (by decide)
 have h2:h%(2^64:Int)<2^64:=Int.emod_lt_of_pos _ (by decide)
 omega
def cS(mask:Nat)(i p:Nat):Nat→Nat×Nat
 |0=>(i,p)
 |r+1=>leap mask (cS mask i p r).1 (cS mask i p r).2
theorem iQ(mask i p:Nat):∀r,(cS mask i p r).2=p / 32^r
 |0=>by simp [cS]
 |r+1=>by
  show (cS mask i p r).2 / 32=_;rw [iQ mask i p r,Nat.div_div_eq_div_mul,Nat.pow_succ]
def Ha(mask:Nat)(i:Nat):Nat:=(i*5+1)%(mask+1)
def iz(mask:Nat)(i:Nat):Nat→Nat
 |0=>i
 |r+1=>Ha mask (iz mask i r)
theorem ja(mask i:Nat)(a:Nat):∀b,iz mask i (a+b)=iz mask (iz mask i a) b
 |0=>rfl
 |b+1=>by
  show Ha mask (iz mask i (a+b))=_;rw [ja mask i a b];rfl
theorem qe{mask i p r0:Nat}(h:(cS mask i p r0).2=0):∀r,cS mask i p (r0+r)=(iz mask (cS mask i p r0).1 r,0)
 |0=>by rw [Nat.add_zero,iz];exact Prod.ext rfl h
 |r+1=>by
  show leap mask (cS mask i p (r0+r)).1 (cS mask i p (r0+r)).2=_;rw [qe h r];unfold leap;simp [iz,Ha]
def rL(mask:Nat):Prop:=mask=7∨mask=31∨mask=127∨mask=511
def LB(mask:Nat):Nat→Nat→List Nat
 |_,0=> []
 |i,n+1=>i::LB mask (Ha mask i) n
theorem yy{mask s:Nat}:∀{i n:Nat},s∈LB mask i n→∃r,r<n∧iz mask i r=s
 |i,0,h=>by cases h
 |i,n+1,h=>by
  rcases bQ.mp h with rfl|h
  ·exact ⟨0,by omega,rfl⟩
  ·obtain ⟨r,hr,e⟩:=yy h
   refine ⟨r+1,by omega,?_⟩
   have:=ja mask i 1 r
   rw [show 1+r=r+1 by omega] at this
   rw [this];exact e
theorem LC{mask:Nat}(h:rL mask):(∀s,s≤mask→∃r,r≤mask∧iz mask 0 r=s)∧iz mask 0 (mask+1)=0:=by
 have key:∀m,(List.range (m+1)).all (λs=>(LB m 0 (m+1)).contains s)=true→∀s,s≤m→∃r,r≤m∧iz m 0 r=s:=λm hm s hs=>by
  have:=List.all_eq_true.mp hm s (cm.mpr (by omega))
  obtain ⟨r,hr,e⟩:=yy (List.contains_iff_mem.mp this);exact ⟨r,by omega,e⟩
 rcases h with rfl|rfl|rfl|rfl
 ·exact ⟨key 7 (by decide+kernel),by decide+kernel⟩
 ·exact ⟨key 31 (by decide+kernel),by decide+kernel⟩
 ·exact ⟨key 127 (by decide+kernel),by decide+kernel⟩
 ·exact ⟨key 511 (by decide+kernel),by decide+kernel⟩
theorem cover{mask:Nat}(h:rL mask){i s:Nat}(hi:i≤mask)(hs:s≤mask):∃r,r≤mask∧iz mask i r=s:=by
 obtain ⟨o,per⟩:=LC h;obtain ⟨a,ha,rfl⟩:=o i hi;obtain ⟨b,hb,rfl⟩:=o s hs
 by_cases c:a≤b
 ·refine ⟨b-a,by omega,?_⟩
  rw [←ja,show a+(b-a)=b by omega]
 ·refine ⟨mask+1-a+b,by omega,?_⟩
  rw [←ja,show a+(mask+1-a+b)=mask+1+b by omega,ja,per]
def bW(mask:Nat)(p:Probe):Nat→Probe
 |0=>p
 |k+1=>kd mask (bW mask p k)
theorem iY(mask:Nat)(p:Probe)(a:Nat):∀b,bW mask p (a+b)=bW mask (bW mask p a) b
 |0=>rfl
 |b+1=>by
  show kd mask (bW mask p (a+b))=_;rw [iY mask p a b];rfl
theorem lN(mask:Nat)(h:Int):∀k,uH mask h k=bW mask (qY mask h) k
 |0=>rfl
 |k+1=>by
  show kd mask _=kd mask _;rw [lN mask h k]
theorem pH(mask:Nat)(p:Probe):∀c,c≤p.more→bW mask p c={p with j:=p.j+c,more:=p.more-c}
 |0,_=>rfl
 |c+1,hc=>by
  show kd mask (bW mask p c)=_;rw [pH mask p c (by omega)]
  unfold kd;rw [if_pos (by show p.more-c>0;omega)]
  show ({p with j:=p.j+c+1,more:=p.more-c-1}:Probe)={p with j:=p.j+(c+1),more:=p.more-(c+1)}
  rw [show p.more-c-1=p.more-(c+1) by omega,show p.j+c+1=p.j+(c+1) by omega]
def HX(mask:Nat)(p:Probe)(ip:Nat×Nat):Probe:={p with j:=ip.1,more:=runEnd mask ip.1-ip.1,i:=ip.1,perturb:=ip.2}
theorem more_le(mask i:Nat):runEnd mask i-i≤9:=by
 unfold runEnd
 split<;>omega
theorem mL(mask:Nat)(p:Probe):bW mask p (p.more+1)=HX mask p (leap mask p.i p.perturb):=by
 show kd mask (bW mask p p.more)=_;rw [pH mask p p.more (bh _)];unfold kd;rw [if_neg (by show ¬p.more-p.more>0;omega)]
 rfl
theorem rO(mask:Nat)(p:Probe):∀r,∃k,k≤p.more+1+10*r∧bW mask p k=HX mask p (cS mask p.i p.perturb (r+1))
 |0=>⟨p.more+1,by omega,mL mask p⟩
 |r+1=>by
  obtain ⟨k,hk,e⟩:=rO mask p r;have h9:=more_le mask (cS mask p.i p.perturb (r+1)).1;refine ⟨k+((runEnd mask (cS mask p.i p.perturb (r+1)).1-(cS mask p.i p.perturb (r+1)).1)+1),by omega,?_⟩
  rw [iY,e];exact mL mask (HX mask p (cS mask p.i p.perturb (r+1)))
theorem yN(mask i p:Nat)(r:Nat):(cS mask i p (r+1)).1≤mask:=by
 show (((cS mask i p r).1*5+1+(cS mask i p r).2 / 32)%(mask+1))≤mask
 have:=mJ ((cS mask i p r).1*5+1+(cS mask i p r).2 / 32) (show 0<mask+1 by omega)
 omega
theorem BH{mask i:Nat}(h:i≤mask):i+(runEnd mask i-i)≤mask:=by
 unfold runEnd
 split<;>omega
structure qL (mask:Nat) (p:Probe):Prop where
 le:p.j+p.more≤mask
 more:p.more≤9
 per:p.perturb<2^64
 dum:p.dummy=none
theorem qL.kd{mask:Nat}{p:Probe}(o:qL mask p):qL mask (kd mask p):=by
 unfold SetTable.kd
 split
 ·next h=>exact ⟨by show p.j+1+(p.more-1)≤mask;have:=o.le;omega,by show p.more-1≤9;have:=o.more;omega,o.per,o.dum⟩
 ·refine ⟨BH (by have:=mJ (p.i*5+1+p.perturb / 32) (show 0<mask+1 by omega);show (p.i*5+1+p.perturb / 32)%(mask+1)≤mask;omega),more_le _ _,?_,o.dum⟩
  show p.perturb / 32<2^64
  have:=o.per
  omega
theorem qL.start(mask:Nat)(h:Int):qL mask (qY mask h):=⟨BH (mask:=mask) (i:=bits h%(mask+1)) (by have:=mJ (bits h) (show 0<mask+1 by omega);omega),more_le _ _,Dt h,rfl⟩
theorem qL.bW{mask:Nat}{p:Probe}(o:qL mask p):∀k,qL mask (bW mask p k)
 |0=>o
 |k+1=>(o.bW k).kd
theorem meets{mask:Nat}(f:rL mask){p:Probe}(o:qL mask p){s:Nat}(hs:s≤mask):∃k,k<10*turns mask∧(bW mask p k).j=s:=by
 have z:(cS mask p.i p.perturb 13).2=0:=by
  rw [iQ];exact Nat.div_eq_of_lt (fI o.per (by decide))
 obtain ⟨r,hr,e⟩:=cover f (yN mask p.i p.perturb 12) hs;obtain ⟨k,hk,e2⟩:=rO mask p (12+r);refine ⟨k,?_,?_⟩
 ·have:=o.more
  unfold turns;omega
 ·rw [e2]
  show (cS mask p.i p.perturb (12+r+1)).1=s;rw [show 12+r+1=13+r by omega,qe z]
  exact e
theorem vy{t:SetTable}(R:lZ t.place)(hd:t.dummies= #[])(hashAt:Nat→Int)(h:Int):∀(K fuel:Nat)(p:Probe),p.dummy=none→K<fuel→(∀i:Nat,t.place[i]? ≠some (bW t.mask p K).j)→
  ∃k0,k0≤K∧(∀k',k'<k0→∃i:Nat,t.place[i]? =some (bW t.mask p k').j∧hashAt i≠h)∧
   (((∀i:Nat,t.place[i]? ≠some (bW t.mask p k0).j)∧probe.go t hashAt h fuel p=some (.empty (bW t.mask p k0).j none))∨
    (∃i:Nat,t.place[i]? =some (bW t.mask p k0).j∧hashAt i=h∧probe.go t hashAt h fuel p=some (.candidate (bW t.mask p k0).j i (bW t.mask p (k0+1)))))
 |K,0,p,_,hK,_=>by omega
 |K,fuel+1,p,dn,hK,he=>by
  by_cases c:∃i:Nat,t.place[i]? =some p.j
  ·obtain ⟨i,hi⟩:=c
   have sl:=AG R hi
   by_cases c2:hashAt i=h
   ·refine ⟨0,b9 _,λk' h'=>by omega, .inr ⟨i,hi,c2,?_⟩⟩
    rw [probe.go,sl];dsimp only;rw [if_pos (by simpa using c2)]
    rfl
   ·cases K with
    |zero=>exact absurd hi (he i)
    |succ K=>
     have Tb:(kd t.mask p).dummy=none:=by
      unfold kd
      split<;>exact dn
     have e1:∀k,bW t.mask (kd t.mask p) k=bW t.mask p (k+1):=λk=>by
      have:=iY t.mask p 1 k
      rw [show 1+k=k+1 by omega] at this
      exact this.symm
     obtain ⟨k0,X2,a,b⟩:=vy R hd hashAt h K fuel (kd t.mask p) Tb (by omega) (by rw [e1];exact he)
     have eg:probe.go t hashAt h (fuel+1) p=probe.go t hashAt h fuel (kd t.mask p):=by
      rw [probe.go,sl];dsimp only;rw [if_neg (by simpa using c2)]
      rfl
     refine ⟨k0+1,by omega,λk' h'=>?_,?_⟩
     ·cases k' with
      |zero=>exact ⟨i,hi,c2⟩
      |succ k'=>
       have:=a k' (by omega)
       rw [e1] at this;exact this
     ·rw [e1,e1] at b
      rw [eg];exact b
  ·have c:∀i:Nat,t.place[i]? ≠some p.j:=λi hi=>c ⟨i,hi⟩
   refine ⟨0,b9 _,λk' h'=>by omega, .inl ⟨c,?_⟩⟩
   rw [probe.go,yR R hd c];dsimp only;rw [dn];rfl
structure TOk (t:SetTable) (hs:List Int):Prop where
 few:rL t.mask
 dum:t.dummies= #[]
 rise:lZ t.place
 size:t.place.size=hs.length
 le:∀(i j:Nat),t.place[i]? =some j→j≤t.mask
 room:t.place.size≤t.mask
 path:∀(i:Nat)(h:Int),hs[i]? =some h→∃k,t.place[i]? =some (bN t.mask h k)∧∀k',k'<k→∃i':Nat,t.place[i']? =some (bN t.mask h k')
theorem xf(mask:Nat)(h:Int)(k:Nat):bN mask h k≤mask:=by
 unfold bN;rw [lN]
 have:=((qL.start mask h).bW k).le
 omega
theorem TOk.empty{t:SetTable}{hs:List Int}(T:TOk t hs):∃s,s≤t.mask∧∀i:Nat,t.place[i]? ≠some s:=by
 apply Classical.byContradiction;intro c
 have all:∀s∈List.range (t.mask+1),s∈t.place.toList:=λs hs=>by
  apply Classical.byContradiction;intro n;refine c ⟨s,by have:=cm.mp hs;omega,λi hi=>n ?_⟩
  rw [←pj] at hi;exact gD hi
 have:=Wb.aU lq all
 rw [gG,gd] at this
 have:=T.room
 omega
theorem TOk.probe{t:SetTable}{hs:List Int}(T:TOk t hs)(hashAt:Nat→Int)(h:Int)(k:Nat):
  ∃k0,k≤k0∧(∀k',k≤k'→k'<k0→∃i:Nat,t.place[i]? =some (bN t.mask h k')∧hashAt i≠h)∧
   (((∀i:Nat,t.place[i]? ≠some (bN t.mask h k0))∧t.probe hashAt h (uH t.mask h k)=some (.empty (bN t.mask h k0) none))∨
    (∃i:Nat,t.place[i]? =some (bN t.mask h k0)∧hashAt i=h∧t.probe hashAt h (uH t.mask h k)=some (.candidate (bN t.mask h k0) i (uH t.mask h (k0+1))))):=by
 obtain ⟨s,wF,he⟩:=T.empty;have o:=(qL.start t.mask h).bW k;rw [←lN] at o;obtain ⟨K,hK,eK⟩:=meets T.few o wF;have e1:∀c,bW t.mask (uH t.mask h k) c=uH t.mask h (k+c):=λc=>by rw [lN,lN,←iY]
 obtain ⟨k0,h0,a,b⟩:=vy T.rise T.dum hashAt h K (10*turns t.mask) (uH t.mask h k) o.dum hK (by rw [eK];exact he)
 refine ⟨k+k0,by omega,λk' h1 h2=>?_,?_⟩
 ·have:=a (k'-k) (by omega)
  rw [e1,show k+(k'-k)=k' by omega] at this
  exact this
 ·rw [e1,e1] at b
  exact b
theorem iM{α:Type}{xs:Array α}{p:Nat}(x:α)(hp:p≤xs.size)(i:Nat):(insertAt xs p x)[i]? =if i<p then xs[i]? else if i=p then some x else xs[i-1]? :=by
 rw [←pj,SetTable.toList_insertAt];have lt:(xs.toList.take p).length=p:=by rw [b8,gd];omega
 by_cases c:i<p
 ·rw [if_pos c,dH (by omega),pe c,pj]
 ·rw [if_neg c]
  by_cases d:i=p
  ·subst d
   rw [if_pos rfl,fA (by omega),lt,kc];rfl
  ·rw [if_neg d,fA (by omega),lt]
   obtain ⟨m,hm⟩:∃m,i-p=m+1:=⟨i-p-1,by omega⟩
   rw [hm,ua,vL,pj]
   congr 1;omega
theorem fo{α:Type}(xs:Array α)(p:Nat)(x:α):(insertAt xs p x).size=xs.size+1:=by
 rw [←gd,(SetTable.insertAt_perm xs p x).length_eq];simp
theorem gO{xs:Array Nat}{i j:Nat}(h:xs[i]? =some j):xs[i]! =j:=by
 obtain ⟨hi,e⟩:=zb.mp h;simp [hi,e]
theorem CO{xs:Array Nat}(R:lZ xs){j:Nat}(h:∀i:Nat,xs[i]? ≠some j):lZ (insertAt xs (below xs j) j):=by
 obtain ⟨b1,b2,b3⟩:=fV R j;have g:=iM (xs:=xs) j b1;intro a b hb wA;rw [fo] at hb
 have val:∀i,i<xs.size+1→∃v,(insertAt xs (below xs j) j)[i]? =some v∧((i<below xs j∧xs[i]? =some v)∨(i=below xs j∧v=j)∨(below xs j<i∧xs[i-1]? =some v)):=λi hi=>by
  rw [g i]
  by_cases c:i<below xs j
  ·rw [if_pos c,qI (by omega)]
   exact ⟨_,rfl, .inl ⟨c,rfl⟩⟩
  ·rw [if_neg c]
   by_cases d:i=below xs j
   ·rw [if_pos d];exact ⟨j,rfl, .inr (.inl ⟨d,rfl⟩)⟩
   ·rw [if_neg d,qI (by omega)]
    exact ⟨_,rfl, .inr (.inr ⟨by omega,rfl⟩)⟩
 obtain ⟨va,ha,ca⟩:=val a (by omega)
 obtain ⟨vb,GI,cb⟩:=val b (by omega)
 rw [gO ha,gO GI];have lo:∀i v,i<below xs j→xs[i]? =some v→v<j:=λi v h1 h2=>by have:=b2 i h1;rw [gO h2] at this;exact this
 have hi:∀i v,below xs j≤i→xs[i]? =some v→j<v:=λi v h1 h2=>by
  have:=b3 i h1 (zb.mp h2).1
  rw [gO h2] at this
  have:v≠j:=λz=>h i (by rw [h2,z])
  omega
 have mid:∀i k v u,xs[i]? =some v→xs[k]? =some u→i<k→v<u:=λi k v u h1 h2 h3=>by
  have:=R i k (zb.mp h2).1 h3
  rw [gO h1,gO h2] at this;exact this
 rcases ca with ⟨a1,a2⟩ | ⟨a1,rfl⟩ | ⟨a1,a2⟩
 ·rcases cb with ⟨c1,c2⟩ | ⟨c1,rfl⟩ | ⟨c1,c2⟩
  ·exact mid _ _ _ _ a2 c2 wA
  ·exact lo _ _ a1 a2
  ·have:=lo _ _ a1 a2;have:=hi (b-1) _ (by omega) c2;omega
 ·rcases cb with ⟨c1,c2⟩ | ⟨c1,rfl⟩ | ⟨c1,c2⟩
  ·omega
  ·omega
  ·exact hi (b-1) _ (by omega) c2
 ·rcases cb with ⟨c1,c2⟩ | ⟨c1,rfl⟩ | ⟨c1,c2⟩
  ·omega
  ·omega
  ·exact mid _ _ _ _ a2 c2 (by omega)
theorem Fu{xs:Array Nat}(R:lZ xs){j s:Nat}:(∃i:Nat,(insertAt xs (below xs j) j)[i]? =some s)↔s=j∨∃i:Nat,xs[i]? =some s:=by
 obtain ⟨b1,_,_⟩:=fV R j;have g:=iM (xs:=xs) j b1
 constructor
 ·rintro ⟨i,h⟩
  rw [g i] at h
  split at h
  ·exact .inr ⟨i,h⟩
  ·split at h
   ·exact .inl (Option.some.inj h).symm
   ·exact .inr ⟨_,h⟩
 ·rintro (rfl| ⟨i,h⟩)
  ·exact ⟨below xs s,by rw [g,if_neg (by omega),if_pos rfl]⟩
  ·by_cases c:i<below xs j
   ·exact ⟨i,by rw [g,if_pos c];exact h⟩
   ·exact ⟨i+1,by rw [g,if_neg (by omega),if_neg (by omega)];exact h⟩
theorem TOk.put{t:SetTable}{hs:List Int}(T:TOk t hs){h:Int}{k:Nat}(he:∀i:Nat,t.place[i]? ≠some (bN t.mask h k))(hp:∀k',k'<k→∃i:Nat,t.place[i]? =some (bN t.mask h k'))(room:t.place.size+1≤t.mask):
  (t.put (bN t.mask h k)).2=below t.place (bN t.mask h k)∧below t.place (bN t.mask h k)≤hs.length∧
  TOk (t.put (bN t.mask h k)).1 (hs.take (below t.place (bN t.mask h k))++h::hs.drop (below t.place (bN t.mask h k))):=by
 obtain ⟨b1,b2,b3⟩:=fV T.rise (bN t.mask h k);have g:=iM (xs:=t.place) (bN t.mask h k) b1;have sz:=T.size;have pm:=λs=>Fu (s:=s) (j:=bN t.mask h k) T.rise;refine ⟨rfl,by omega,T.few,?_,CO T.rise he,?_,?_,?_,?_⟩
 ·show (if has t.dummies _=true then _ else t.dummies)= #[]
  rw [T.dum];rfl
 ·show (insertAt t.place _ _).size=_
  rw [fo,cj,b8,dY,eN];omega
 ·intro i j hj
  have hj:(insertAt t.place (below t.place (bN t.mask h k)) (bN t.mask h k))[i]? =some j:=hj
  rcases (pm j).mp ⟨i,hj⟩ with rfl| ⟨i',h'⟩
  ·exact xf _ _ _
  ·exact T.le _ _ h'
 ·show (insertAt t.place _ _).size≤_
  rw [fo];exact room
 ·intro i h' hi
  show ∃k1,(insertAt t.place (below t.place (bN t.mask h k)) (bN t.mask h k))[i]? =some (bN t.mask h' k1)∧∀k',k'<k1→∃i':Nat,(insertAt t.place (below t.place (bN t.mask h k)) (bN t.mask h k))[i']? =some (bN t.mask h' k');have lt:(hs.take (below t.place (bN t.mask h k))).length=below t.place (bN t.mask h k):=by rw [b8];omega
  by_cases c:i<below t.place (bN t.mask h k)
  ·rw [dH (by omega),pe c] at hi
   obtain ⟨k1,e1,e2⟩:=T.path i h' hi;exact ⟨k1,by rw [g,if_pos c];exact e1,λk' lU=>(pm _).mpr (.inr (e2 k' lU))⟩
  ·rw [fA (by omega),lt] at hi
   by_cases d:i=below t.place (bN t.mask h k)
   ·rw [d,kc] at hi
    cases (Option.some.inj hi);exact ⟨k,by rw [d,g,if_neg (by omega),if_pos rfl],λk' lU=>(pm _).mpr (.inr (hp k' lU))⟩
   ·obtain ⟨m,hm⟩:∃m,i-below t.place (bN t.mask h k)=m+1:=⟨i-below t.place (bN t.mask h k)-1,by omega⟩
    rw [hm,ua,vL] at hi;obtain ⟨k1,e1,e2⟩:=T.path _ h' hi;refine ⟨k1,?_,λk' lU=>(pm _).mpr (.inr (e2 k' lU))⟩;rw [g,if_neg c,if_neg d,show i-1=below t.place (bN t.mask h k)+m by omega]
    exact e1
theorem qB(mask i p:Nat):∀r,cS mask i p (r+1)=cS mask (leap mask i p).1 (leap mask i p).2 r
 |0=>rfl
 |r+1=>by
  show leap mask (cS mask i p (r+1)).1 (cS mask i p (r+1)).2=_;rw [qB mask i p r];rfl
def Own(o:Array (Option Nat))(s:Nat):Prop:=(o.getD s (some 0)).isNone=false
theorem sF{mask:Nat}(owner:Array (Option Nat)):∀(fuel:Nat)(p:Probe),p.j=p.i→p.more=runEnd mask p.i-p.i→p.i≤runEnd mask p.i→(∃r,r<fuel∧¬Own owner (cS mask p.i p.perturb r).1)→
  ∃k0,layClean.free mask owner fuel p.i p.perturb=some (bW mask p k0).j∧¬Own owner (bW mask p k0).j∧∀k',k'<k0→Own owner (bW mask p k').j
 |0,p,_,_,_,⟨r,hr,_⟩=>by omega
 |fuel+1,p,e1,e2,e3,⟨r,hr,he⟩=>by
  have run:∀c,c≤p.more→(bW mask p c).j=p.i+c:=λc hc=>by rw [pH mask p c hc];show p.j+c=_;rw [e1]
  cases hf:(List.range (runEnd mask p.i+1-p.i)).find? λk=>(owner.getD (p.i+k) (some 0)).isNone with
  |some k=>
   obtain ⟨h1,as,bs,h2,h3⟩:=List.find?_eq_some_iff_append.mp hf;have hk:k<runEnd mask p.i+1-p.i:=cm.mp (by rw [h2];simp)
   have X8:as.length=k:=by
    have hl:as.length<(List.range (runEnd mask p.i+1-p.i)).length:=by rw [h2];simp
    have:=xr (n:=runEnd mask p.i+1-p.i) (i:=as.length) (by simpa using hl)
    rw [h2,fA (bh _),kc] at this;exact (Option.some.inj this).symm
   refine ⟨k,?_,?_,λk' lU=>?_⟩
   ·rw [layClean.free,hf,run k (by omega)]
   ·rw [run k (by omega)]
    unfold Own;rw [h1];exact Bool.noConfusion
   ·rw [run k' (by omega)]
    have hm:k'∈as:=by
     have:=xr (n:=runEnd mask p.i+1-p.i) (i:=k') (by omega)
     rw [h2,dH (by omega)] at this
     exact gD this
    have:=h3 k' hm
    unfold Own;exact Bool.not_eq_true' _▸this
  |none=>
   have all:=List.find?_eq_none.mp hf
   have own:∀c,c≤p.more→Own owner (p.i+c):=λc hc=>by
    have:=all c (cm.mpr (by omega))
    unfold Own;exact vN.mpr this
   cases r with
   |zero=>exact absurd (own 0 (b9 _)) he
   |succ r=>
    have lp:=mL mask p
    obtain ⟨k0,a,b,c⟩:=sF owner fuel (HX mask p (leap mask p.i p.perturb)) rfl rfl (by
     show (leap mask p.i p.perturb).1≤runEnd mask (leap mask p.i p.perturb).1;unfold runEnd;split<;>omega) ⟨r,by omega,by rw [qB] at he;exact he⟩
    rw [←lp] at a b c;have e4:∀k,bW mask (bW mask p (p.more+1)) k=bW mask p (p.more+1+k):=λk=>(iY mask p (p.more+1) k).symm;refine ⟨p.more+1+k0,?_,?_,λk' lU=>?_⟩
    ·rw [layClean.free,hf,←e4,←a,lp];rfl
    ·rw [←e4];exact b
    ·by_cases d:k'≤p.more
     ·rw [run k' d];exact own k' d
     ·have:=c (k'-(p.more+1)) (by omega)
      rw [e4,show p.more+1+(k'-(p.more+1))=k' by omega] at this
      exact this
structure Laid (mask:Nat) (hs:List Int) (owner:Array (Option Nat)) (ss:List Nat):Prop where
 size:owner.size=mask+1
 len:ss.length=hs.length
 nd:ss.Nodup
 le:∀s∈ss,s≤mask
 get:∀s,s≤mask→∀k,owner.getD s (some 0)=some k↔ss[k]? =some s
 path:∀(k:Nat)(h:Int),hs[k]? =some h→∃c,ss[k]? =some (bN mask h c)∧∀c',c'<c→bN mask h c'∈ss
theorem Laid.own{mask:Nat}{hs:List Int}{owner:Array (Option Nat)}{ss:List Nat}(L:Laid mask hs owner ss){s:Nat}(h:s≤mask):Own owner s↔s∈ss:=by
 unfold Own
 constructor
 ·intro e
  cases o:owner.getD s (some 0) with
  |none=>rw [o] at e;cases e
  |some k=>exact gD ((L.get s h k).mp o)
 ·intro e
  obtain ⟨k,hk⟩:=zf e;rw [(L.get s h k).mpr hk];rfl
theorem z3{mask:Nat}(f:rL mask){hs:List Int}{owner:Array (Option Nat)}{ss:List Nat}(L:Laid mask hs owner ss)(room:hs.length≤mask)(h:Int):
  ∃j,layClean.free mask owner (turns mask) (bits h%(mask+1)) (bits h)=some j∧Laid mask (hs++ [h]) (owner.setIfInBounds j (some hs.length)) (ss++ [j]):=by
 have o:=qL.start mask h
 obtain ⟨s,uA,jA⟩:∃s,s≤mask∧s∉ss:=by
  apply Classical.byContradiction;intro c
  have all:∀s∈List.range (mask+1),s∈ss:=λs hs=>by
   apply Classical.byContradiction;intro n;exact c ⟨s,by have:=cm.mp hs;omega,n⟩
  have:=Wb.aU lq all
  rw [gG,L.len] at this;omega
 have z:(cS mask (qY mask h).i (qY mask h).perturb 13).2=0:=by
  rw [iQ];exact Nat.div_eq_of_lt (fI o.per (by decide))
 obtain ⟨r,hr,e⟩:=cover f (yN mask (qY mask h).i (qY mask h).perturb 12) uA
 have hi:(qY mask h).i≤mask:=by
  have:=mJ (bits h) (show 0<mask+1 by omega)
  show bits h%(mask+1)≤mask;omega
 obtain ⟨k0,a,b,c⟩:=sF owner (turns mask) (qY mask h) rfl rfl (by unfold runEnd;split<;>omega) ⟨13+r,by unfold turns;omega,by
  rw [qe z];show ¬Own owner (iz mask _ r);rw [e,L.own uA];exact jA⟩
 have sl:∀k,(bW mask (qY mask h) k).j=bN mask h k:=λk=>by unfold bN;rw [lN]
 rw [sl] at a b;have hle:=xf mask h k0;rw [L.own hle] at b;refine ⟨bN mask h k0,a,?_,?_,?_,?_,?_,?_⟩
 ·rw [Array.size_setIfInBounds];exact L.size
 ·rw [cj,cj,L.len];rfl
 ·exact dX.mpr ⟨L.nd,by simp,λx hx y hy z=>b (by rw [←gF.mp hy,←z];exact hx)⟩
 ·intro x hx
  rcases cq.mp hx with hx|hx
  ·exact L.le x hx
  ·rw [gF.mp hx];exact hle
 ·intro x hx k
  have e1:(owner.setIfInBounds (bN mask h k0) (some hs.length)).getD x (some 0)=if bN mask h k0=x then some hs.length else owner.getD x (some 0):=by
   rw [qH,qH,Array.getElem?_setIfInBounds]
   by_cases d:bN mask h k0=x
   ·rw [if_pos d,if_pos d,if_pos (by rw [L.size];omega)];rfl
   ·rw [if_neg d,if_neg d]
  rw [e1]
  by_cases d:bN mask h k0=x
  ·rw [if_pos d]
   constructor
   ·intro e
    cases (Option.some.inj e);rw [←L.len,fA (bh _),kc,←d];rfl
   ·intro e
    by_cases q:k<ss.length
    ·rw [dH q] at e
     exact absurd (by rw [d];exact gD e) b
    ·have:k<(ss++ [bN mask h k0]).length:=(fC.mp e).1
     rw [cj] at this
     have:k<ss.length+1:=this
     rw [show k=ss.length by omega,L.len]
  ·rw [if_neg d,L.get x hx k]
   constructor
   ·intro e
    rw [dH (fC.mp e).1];exact e
   ·intro e
    by_cases q:k<ss.length
    ·rw [dH q] at e;exact e
    ·have:k<(ss++ [bN mask h k0]).length:=(fC.mp e).1
     rw [cj] at this
     have:k<ss.length+1:=this
     rw [show k=ss.length by omega,fA (bh _),kc] at e
     exact absurd (Option.some.inj e) d
 ·intro k h' hk
  by_cases q:k<hs.length
  ·rw [dH q] at hk
   obtain ⟨c1,e1,e2⟩:=L.path k h' hk;exact ⟨c1,by rw [dH (by rw [L.len];exact q)];exact e1,λc' sL=>dW _ (e2 c' sL)⟩
  ·have:k<(hs++ [h]).length:=(fC.mp hk).1
   rw [cj] at this
   have:k<hs.length+1:=this
   have ek:k=hs.length:=by omega
   subst ek;rw [fA (bh _),kc] at hk;cases (Option.some.inj hk);refine ⟨k0,by rw [←L.len,fA (bh _),kc];rfl,λc' sL=>dW _ ?_⟩
   have:=c c' sL
   rw [sl] at this;exact (L.own (xf _ _ _)).mp this
theorem z4(mask:Nat):Laid mask [] (Array.replicate (mask+1) none) [] where
 size:=by simp
 len:=rfl
 nd:=j8
 le:=λs h=>by cases h
 get:=λs hs k=>by
  rw [qH,Array.getElem?_replicate,if_pos (by omega)]
  simp
 path:=λk h e=>by cases e
def u9(mask:Nat)(acc:Option (Array (Option Nat)×Nat))(h:Int):Option (Array (Option Nat)×Nat):=do
 let (owner,k) ←acc
 let j ←layClean.free mask owner (turns mask) (bits h%(mask+1)) (bits h)
 pure (owner.setIfInBounds j (some k),k+1)
theorem vc{mask:Nat}(f:rL mask):∀(rest done:List Int)(owner:Array (Option Nat))(ss:List Nat),Laid mask done owner ss→done.length+rest.length≤mask+1→
  ∃oG LY,rest.foldl (u9 mask) (some (owner,done.length))=some (oG,done.length+rest.length)∧Laid mask (done++rest) oG LY
 | [],done,owner,ss,L,_=>⟨owner,ss,rfl,by rw [j5];exact L⟩
 |h::rest,done,owner,ss,L,hl=>by
  rw [dY] at hl;obtain ⟨j,e,L'⟩:=z3 f L (by omega) h
  have ef:u9 mask (some (owner,done.length)) h=some (owner.setIfInBounds j (some done.length),done.length+1):=by
   unfold u9;simp [e]
  obtain ⟨oG,LY,e2,L2⟩:=vc f rest (done++ [h]) _ _ L' (by rw [cj];show done.length+1+rest.length≤_;omega)
  refine ⟨oG,LY,?_,by rw [mF] at L2;exact L2⟩
  rw [List.foldl_cons,ef];rw [cj] at e2;have e2:rest.foldl (u9 mask) (some (owner.setIfInBounds j (some done.length),done.length+1))=some (oG,done.length+1+rest.length):=e2;rw [e2,dY]
  congr 2;omega
theorem wJ{mask:Nat}(f:rL mask)(hs:List Int)(room:hs.length≤mask+1):∃owner ss,layClean mask hs.toArray=some owner∧Laid mask hs owner ss:=by
 obtain ⟨owner,ss,e,L⟩:=vc f hs [] _ _ (z4 mask) (by simpa using room)
 refine ⟨owner,ss,?_,by simpa using L⟩
 have:layClean mask hs.toArray=(hs.foldl (u9 mask) (some (Array.replicate (mask+1) none,0))).map (·.1):=by
  unfold layClean;rw [List.foldl_toArray];rfl
 have e:hs.foldl (u9 mask) (some (Array.replicate (mask+1) none,0))=some (owner,[].length+hs.length):=e;rw [this,e];rfl
def cP(mask:Nat)(owner:Array (Option Nat)):List (Nat×Nat):=(List.range (mask+1)).filterMap λj=>(owner.getD j none).map (j,·)
theorem Cr{mask:Nat}{hs:List Int}{owner:Array (Option Nat)}{ss:List Nat}(L:Laid mask hs owner ss){j k:Nat}:(j,k)∈cP mask owner↔ss[k]? =some j:=by
 unfold cP;rw [zq99]
 have dflt:∀s,s≤mask→owner.getD s none=owner.getD s (some 0):=λs hs=>by
  rw [qH,qH,qI (by rw [L.size];omega)];rfl
 constructor
 ·rintro ⟨s,wF,e⟩
  have wF:=cm.mp wF;rw [dflt s (by omega)] at e
  cases o:owner.getD s (some 0) with
  |none=>rw [o] at e;cases e
  |some k'=>
   rw [o] at e;have e:=Option.some.inj e;have e1:s=j:=(Prod.mk.inj e).1;have e2:k'=k:=(Prod.mk.inj e).2;rw [←e1,←e2];exact (L.get s (by omega) k').mp o
 ·intro e
  have hj:=L.le j (gD e);refine ⟨j,cm.mpr (by omega),?_⟩
  rw [dflt j hj,(L.get j hj k).mpr e];rfl
theorem z9(mask:Nat)(owner:Array (Option Nat)):((cP mask owner).map (·.1)).Pairwise (·<·):=by
 unfold cP;rw [js,List.pairwise_filterMap];refine List.pairwise_lt_range.imp λ {a b} h x hx y hy=>?_;cases oa:owner.getD a none with
 |none=>rw [oa] at hx;cases hx
 |some ka=>
  cases ob:owner.getD b none with
  |none=>rw [ob] at hy;cases hy
  |some kb=>
   rw [oa] at hx;rw [ob] at hy;cases (Option.some.inj hx);cases (Option.some.inj hy);exact h
theorem EG{mask:Nat}(f:rL mask)(hs:List Int)(room:hs.length≤mask)(finger moves:Nat)(led plain:Bool):
  ∃t order,laid mask finger moves led plain hs.toArray=some (t,order)∧t.mask=mask∧t.led=led∧t.plain=plain∧t.moves=moves∧order.toList.Perm (List.range hs.length)∧TOk t (order.toList.map λk=>hs.getD k 0):=by
 obtain ⟨owner,ss,e,L⟩:=wJ f hs (by omega)
 have lm:=λ {j k:Nat}=>Cr (j:=j) (k:=k) L;have ri:=z9 mask owner
 have qT:((cP mask owner).map (·.2)).Nodup:=by
  rw [zc,js];rw [js] at ri;refine ri.imp_of_mem λ {a b} ha hb wA z=>?_;obtain ⟨aj,ak⟩:=a;obtain ⟨bj,bk⟩:=b;have h1:=lm.mp ha;have h2:=lm.mp hb;have z:ak=bk:=z;rw [z,h2] at h1
  have:=Option.some.inj h1
  have wA:aj<bj:=wA;omega
 have perm:((cP mask owner).map (·.2)).Perm (List.range hs.length):=by
  refine (t9 qT lq).mpr λk=>?_;rw [cT,cm]
  constructor
  ·rintro ⟨⟨j,k'⟩,h,rfl⟩
   have:=(fC.mp (lm.mp h)).1
   rw [L.len] at this;exact this
  ·intro hk
   have lU:k<ss.length:=by rw [L.len];exact hk
   exact ⟨(ss[k],k),lm.mpr (bq lU),rfl⟩
 have ll:(cP mask owner).length=hs.length:=by
  have:=perm.length_eq
  simpa using this
 refine ⟨{mask,place:=((cP mask owner).map (·.1)).toArray,dummies:= #[],finger,led,moves,plain},((cP mask owner).map (·.2)).toArray,?_,rfl,rfl,rfl,rfl,by simpa using perm,?_⟩
 ·unfold laid
  rw [e];rfl
 have Fh:∀(i j:Nat),((cP mask owner).map (·.1)).toArray[i]? =some j↔∃k,(cP mask owner)[i]? =some (j,k):=λi j=>by
  rw [List.getElem?_toArray,eJ];cases o:(cP mask owner)[i]? with
  |none=>simp
  |some x=>
   obtain ⟨a,b⟩:=x;simp
 have ik:∀s,s∈ss→∃i:Nat,((cP mask owner).map (·.1)).toArray[i]? =some s:=λs wF=>by
  obtain ⟨k,hk⟩:=zf wF;obtain ⟨i,hi⟩:=zf (lm.mpr hk);exact ⟨i,(Fh i s).mpr ⟨k,hi⟩⟩
 refine ⟨f,rfl,?_,?_,?_,?_,?_⟩
 ·intro a b hb wA
  have hb:b<((cP mask owner).map (·.1)).length:=by simpa using hb
  have:=List.pairwise_iff_getElem.mp ri a b (by omega) hb wA
  simp [show a<(cP mask owner).length by simpa using (show a<((cP mask owner).map (·.1)).length by omega),show b<(cP mask owner).length by simpa using hb]
  simpa using this
 ·simp
 ·intro i j h
  obtain ⟨k,hk⟩:=(Fh i j).mp h;exact L.le j (gD (lm.mp (gD hk)))
 ·show ((cP mask owner).map (·.1)).toArray.size≤mask
  simp [ll];exact room
 ·intro i h' hi
  rw [eJ] at hi;cases o:(cP mask owner)[i]? with
  |none=>
   have:(((cP mask owner).map (·.2)).toArray.toList)[i]? =none:=by simp [o]
   rw [this] at hi;cases hi
  |some x=>
   obtain ⟨j,k⟩:=x;have e1:(((cP mask owner).map (·.2)).toArray.toList)[i]? =some k:=by simp [o]
   rw [e1] at hi;have sk:=lm.mp (gD o);have hk:k<hs.length:=by rw [←L.len];exact (fC.mp sk).1
   have eh:hs[k]? =some h':=by
    rw [←Option.some.inj hi];show _=some (hs.getD k 0);rw [aK,bq hk];rfl
   obtain ⟨c,p1,p2⟩:=L.path k h' eh;rw [sk] at p1;refine ⟨c,(Fh i _).mpr ⟨k,by rw [o,Option.some.inj p1]⟩,λc' sL=>ik _ (p2 c' sL)⟩
end PySem.SetTable
namespace PySem
open SetTable PyProof.Rows
def dM(w:World):Bool:=w.params.followText "set-order"
structure fF (bt:Bool) (o:Obj) (es:Array (Int×Value)) (ep:Nat) (t:SetTable):Prop where
 ex:o.ExactSet
 dat:o.data= .set es ep t
 tok:TOk t (es.toList.map (·.1))
 pl:t.plain=true
 ld:t.led= !bt
 few:5*es.size<3*t.mask
theorem TOk.fits{t:SetTable}{hs:List Int}(T:TOk t hs):t.fits hs.length=true:=by
 simp only [SetTable.fits,SetTable.fill,T.dum,T.size,uh,beq_iff_eq,decide_eq_true_eq,true_and]
 have:=T.room
 rw [T.size] at this;simpa using this
theorem fF.fits{w:Bool}{o:Obj}{es:Array (Int×Value)}{ep:Nat}{t:SetTable}(S:fF w o es ep t):t.fits es.size=true:=by
 have:=TOk.fits S.tok
 simpa using this
theorem B6{mask n:Nat}(f:rL mask)(h:5*n<3*mask):n+1≤mask:=by
 rcases f with rfl|rfl|rfl|rfl<;>omega
theorem z7{t:SetTable}{es:Array (Int×Value)}(T:TOk t (es.toList.map (·.1)))(few:5*es.size<3*t.mask)(h:Int)(x:Value):
  ∃p t',layNew t es h x=(SetTable.insertAt es p (h,x),t',false,false)∧TOk t' ((SetTable.insertAt es p (h,x)).toList.map (·.1))∧t'.mask=t.mask∧t'.plain=t.plain∧t'.led=t.led:=by
 obtain ⟨k0,_,a,b⟩:=TOk.probe T (λ_=>h+1) h 0;obtain ⟨b1,b2⟩:=b.resolve_right (λ⟨i,_,c,_⟩=>by have c:h+1=h:=c;omega)
 have fs:t.freeSlot h=some (bN t.mask h k0,false):=by
  unfold SetTable.freeSlot;rw [CY,show qY t.mask h=uH t.mask h 0 from rfl,b2];rfl
 have sz:t.place.size=es.size:=by rw [T.size];simp
 obtain ⟨p1,p2,p3⟩:=TOk.put T (h:=h) (k:=k0) b1 (λk' lU=>let ⟨i,hi,_⟩:=a k' (b9 _) lU;⟨i,hi⟩) (by rw [sz];exact B6 T.few few)
 have e:(SetTable.insertAt es (below t.place (bN t.mask h k0)) (h,x)).toList.map (·.1)=(es.toList.map (·.1)).take (below t.place (bN t.mask h k0))++h::(es.toList.map (·.1)).drop (below t.place (bN t.mask h k0)):=by
  rw [SetTable.toList_insertAt];simp
 rw [←e] at p3;refine ⟨below t.place (bN t.mask h k0),(t.put (bN t.mask h k0)).1,?_,p3,rfl,rfl,rfl⟩
 have ft:(t.put (bN t.mask h k0)).1.fits (SetTable.insertAt es (below t.place (bN t.mask h k0)) (h,x)).size=true:=by
  have:=TOk.fits p3
  rw [aJ,gd] at this;exact this
 unfold layNew;rw [fs];show (SetTable.insertAt es (t.put (bN t.mask h k0)).2 (h,x),(t.put (bN t.mask h k0)).1.orStandIn (SetTable.insertAt es (t.put (bN t.mask h k0)).2 (h,x)).size,false,!(t.put (bN t.mask h k0)).1.fits (SetTable.insertAt es (t.put (bN t.mask h k0)).2 (h,x)).size)=_;rw [p1];unfold SetTable.orStandIn;rw [if_pos ft,ft];rfl
theorem zF{mask n:Nat}(f:rL mask)(h1:3*mask≤5*n)(h2:5*(n-1)<3*mask)(h3:n≤306):rL (sizeAbove (grown n)-1)∧5*n<3*(sizeAbove (grown n)-1)∧n≤sizeAbove (grown n)-1∧sizeAbove (grown n)≤512:=by
 rcases f with rfl|rfl|rfl|rfl
 ·have:n=5:=by omega
  subst this;exact ⟨.inr (.inl rfl),by decide,by decide,by decide⟩
 ·have:n=19:=by omega
  subst this;exact ⟨.inr (.inr (.inl rfl)),by decide,by decide,by decide⟩
 ·have:n=77:=by omega
  subst this;exact ⟨.inr (.inr (.inr rfl)),by decide,by decide,by decide⟩
 ·omega
theorem Ax{t:SetTable}{es:Array (Int×Value)}(T:TOk t (es.toList.map (·.1)))(full:t.tooFull=true)(near:5*(es.size-1)<3*t.mask)(small:es.size≤306):
  ∃t' order,t.relaid (es.map (·.1)) (grown es.size)=some (t',order)∧order.toList.Perm (List.range es.size)∧(order.filterMap (es[·]?)).toList.Perm es.toList∧(order.filterMap (es[·]?)).size=es.size∧
   TOk t' ((order.filterMap (es[·]?)).toList.map (·.1))∧t'.plain=t.plain∧t'.led=t.led∧5*es.size<3*t'.mask∧sizeAbove (grown es.size)≤512:=by
 have sz:t.place.size=es.size:=by rw [T.size];simp
 have f1:3*t.mask≤5*es.size:=by
  unfold SetTable.tooFull SetTable.fill at full;rw [T.dum,sz] at full;simp at full;omega
 obtain ⟨g1,g2,g3,g4⟩:=zF T.few f1 near small;obtain ⟨t',order,e,em,el,ep,_,pm,tk⟩:=EG g1 (es.toList.map (·.1)) (by simpa using g3) t.finger (t.movedTo (sizeAbove (grown es.size)-1)) t.led t.plain
 rw [aJ,gd] at pm
 have pf:(order.filterMap (es[·]?)).toList.Perm es.toList:=by
  rw [Array.toList_filterMap];exact (pm.filterMap _).trans (by rw [filterMap_getElem?_range])
 have sf:(order.filterMap (es[·]?)).size=es.size:=by rw [←gd,pf.length_eq,gd]
 refine ⟨t',order,?_,pm,pf,sf,?_,ep,el,by rw [em];exact g2,g4⟩
 ·unfold SetTable.relaid
  rw [show es.map (·.1)=(es.toList.map (·.1)).toArray by apply Array.toList_inj.mp;simp]
  exact e
 ·have:(order.filterMap (es[·]?)).toList.map (·.1)=order.toList.map λk=>(es.toList.map (·.1)).getD k 0:=by
   rw [Array.toList_filterMap];have lt:∀k∈order.toList,k<es.size:=λk hk=>cm.mp (pm.mem_iff.mp hk);generalize order.toList=l at lt
   induction l with
   |nil=>rfl
   |cons k l ih=>
    have hk:=lt k (bP ..);rw [List.filterMap_cons_some (b:=es[k]) (by simp [hk]),lg,lg,ih λj hj=>lt j (bV _ hj)]
    simp [hk]
  rw [this];exact tk
theorem w6{t:SetTable}{es:Array (Int×Value)}(T:TOk t (es.toList.map (·.1)))(full:t.tooFull=true)(near:5*(es.size-1)<3*t.mask)(small:es.size≤306):
  ∃iK t',relayAll t es (grown es.size)=(iK,t',false)∧iK.toList.Perm es.toList∧TOk t' (iK.toList.map (·.1))∧t'.plain=t.plain∧t'.led=t.led∧5*es.size<3*t'.mask:=by
 obtain ⟨t',order,e,pm,pf,sf,tk,h1,h2,h3,_⟩:=Ax T full near small;refine ⟨_,t',?_,pf,tk,h1,h2,h3⟩;unfold relayAll;rw [e];dsimp only;have c:coversAll order es.size=true:=List.isPerm_iff.mpr pm
 have ft:t'.fits (order.filterMap (es[·]?)).size=true:=by
  have:=TOk.fits tk
  rw [aJ,gd] at this;exact this
 rw [c,ft];rfl
end PySem
set_option maxHeartbeats 1000000
namespace PySem
open SetTable PyProof.Rows
section
variable {prog:Program} {w:World} {A:Around} {E:Value→Shared→Prop} {s:Shared}
theorem qE{h:Heap}{a:Addr}{o:Obj}{es:Array (Int×Value)}{ep:Nat}{t:SetTable}(ho:h.get? a=some o)(hd:o.data= .set es ep t)(iK:Array (Int×Value))(t':SetTable):
  (h.update a (Obj.putSet iK t')).get? a=some {o with data:= .set iK (ep+1) t'}:=by
 have:=Heap.get?_update_self (Obj.putSet iK t') ho (by rw [putSet_of iK t' hd];rfl)
 rw [putSet_of iK t' hd] at this;exact this
theorem xk{a:Addr}{o:Obj}{es:Array (Int×Value)}{ep:Nat}{t:SetTable}{k:Int}{x:Value}{Q:Bool→Shared→Prop}(ho:s.heap.get? a=some o)(S:fF (dM w) o es ep t)(Ov:ElemsOf (intKind prog w) es.toList)
  (Bh:(intKind prog w).is k x=true) (room:es.size≤305)
  (hm:(∃e∈es.toList,(intKind prog w).is k e.2=true)→Q false s)
  (hn:¬(∃e∈es.toList,(intKind prog w).is k e.2=true)→∀h' o' iK zy t',Heap.SameBut a s.heap h'→h'.get? a=some o'→fF (dM w) o' iK zy t'→iK.toList.Perm (es.toList++ [((intKind prog w).hash k,x)])→Q true {s with heap:=h'}):
  wpAny (model prog w) A (setAddHashed a x ((intKind prog w).hash k)) Q E s:=by
 have hd:=S.dat;have hf:=S.fits;obtain ⟨tk,rfl⟩:=Value.isInt_shape Bh;have OP:(Value.int k tk).scannable=true:=rfl;have hb:es.size<scanBound:=by show es.size<4096;omega
 unfold setAddHashed setAddHashedIn;refine wpAny_holding (wpAny_bind (wpAny_setState_of ho hd hf ?_));dsimp only;rw [byScan_of OP hb Ov];simp only [↓reduceIte];unfold setAddByScan;refine wpAny_bind ?_;refine wpAny_bind (wpAny_rule ?_);refine wpAny_bind (wpAny_setScan_of Bh ho hd hf Ov ?_);cases hr:List.findIdx? (λe=>(intKind prog w).is k e.2) es.toList with
 |some j=>
  dsimp only;obtain ⟨hj,Uk,_⟩:=List.findIdx?_eq_some_iff_getElem.mp hr;exact wpAny_pure (wpAny_pure (hm ⟨es.toList[j],mH hj,Uk⟩))
 |none=>
  dsimp only
  have nm:¬∃e∈es.toList,(intKind prog w).is k e.2=true:=by
   rintro ⟨e,he,hp⟩
   have:=List.findIdx?_eq_none_iff.mp hr e he
   rw [hp] at this;exact Bool.noConfusion this
  obtain ⟨p,t1,eL,T1,m1,p1,l1⟩:=z7 S.tok S.few ((intKind prog w).hash k) (.int k tk);rw [eL];dsimp only;refine wpAny_bind (wpAny_pure ?_);rw [show t1.plain=true by rw [p1];exact S.pl]
  simp only [↓reduceIte];refine wpAny_bind ?_;rw [hashByValue_scannable 8 OP];refine wpAny_pure ?_;simp only [plainKind, ↓reduceIte];have lW:(SetTable.insertAt es p ((intKind prog w).hash k,Value.int k tk)).size=es.size+1:=SetTable.fo ..;have Fm:=SetTable.insertAt_perm es p ((intKind prog w).hash k,Value.int k tk);rw [Array.toList_push] at Fm;refine wpAny_bind (wpAny_storeSet_of ho hd ?_ (by rw [lW];refine fits_of_scanBound ?_;show es.size+1<4096;omega))
  have mT:=qE ho hd (SetTable.insertAt es p ((intKind prog w).hash k,Value.int k tk)) t1;have QR:=Heap.SameBut.update s.heap a (Obj.putSet (SetTable.insertAt es p ((intKind prog w).hash k,Value.int k tk)) t1)
  by_cases full:t1.tooFull=true
  ·rw [full]
   simp only [Bool.not_false,Bool.and_true, ↓reduceIte];obtain ⟨Eb,t2,eR,uE,T2,p2,l2,f2⟩:=w6 T1 full (by rw [lW,m1];have:=S.few;omega) (by rw [lW];omega)
   rw [eR];dsimp only;have Rc:Eb.size=es.size+1:=by rw [←gd,uE.length_eq,gd,lW]
   refine wpAny_bind (wpAny_pure ?_);refine wpAny_bind (wpAny_storeSet_of mT rfl ?_ (by rw [Rc];refine fits_of_scanBound ?_;show es.size+1<4096;omega))
   have yg:=qE mT rfl Eb t2;refine wpAny_pure (wpAny_pure (hn nm _ _ Eb _ t2 (QR.trans (Heap.SameBut.update _ a _)) yg ⟨S.ex,rfl,T2,by rw [p2,p1];exact S.pl,by rw [l2,l1];exact S.ld,by rw [Rc];rw [lW] at f2;exact f2⟩ (uE.trans Fm)))
  ·have ff:t1.tooFull=false:=by simpa using full
   rw [ff];simp only [Bool.not_false,Bool.and_false,vK, ↓reduceIte];refine wpAny_pure (wpAny_pure (hn nm _ _ _ _ t1 QR mT ⟨S.ex,rfl,T1,by rw [p1];exact S.pl,by rw [l1];exact S.ld,?_⟩ Fm))
   unfold SetTable.tooFull SetTable.fill at ff;rw [T1.dum,T1.size] at ff;simp at ff;omega
theorem rZ{Q₁:Value→Shared→Prop}
  (h:Q₁ (.ref s.heap.objs.size) {s with heap:=s.heap.push {cls:= .type "set",dict:=none,data:= .set #[] 0 (.fresh 0 0 (!dM w))}}):
  codeAny (model prog w) A (.call (.builtin "set.__new__") ⟨[.type "set"],[]⟩) (wants Q₁ E) s:=by
 refine codeAny_of_tree ?_;show wpAny _ A.in1 (do checkBuiltinCall "set.__new__" ⟨[.type "set"],[]⟩;again (.builtin "set.__new__" ⟨[.type "set"],[]⟩)) _ _ s
 refine wpAny_bind (wpAny_of_eq F.newCall_set_0 (wpAny_pure ⟨plainId_quiet F.plain_set_new _,codeAny_builtin F.entry_set_new ?_⟩));rw [Around.under_plainId F.plain_set_new _];unfold Builtin.«set.__new__» Builtin.Frozenset.newClass;have OQ:=sub_set_self;obtain ⟨hp,g,d,tk,os⟩:=s;dsimp only
 wp_walk
 refine wpAny_askSetting (wpAny_pure ?_);dsimp only;simp only [newObj];refine wpAny_bind (wpAny_alloc (wpAny_pure ?_));exact wpAny_pure h
theorem v7{Q:Value→Shared→Prop}
  (h:Q (.ref s.heap.objs.size) {s with heap:=s.heap.push {cls:= .type "set",dict:=none,data:= .set #[] 0 (.fresh 0 0 (!dM w))}}):
  wpAny (model prog w) A (call (.type "set") []) Q E s:=by
 obtain ⟨c,tl,XI⟩:=F.called_set.mro;have Ub:=F.called_set.made;have OQ:=F.called_set.sub;refine wpAny_call (codeAny_of_tree ?_);show wpAny _ _ (callAny (.type "set") _) _ _ _;refine wpAny_pure ⟨Code.quiet_builtin _ (by decide+kernel),codeAny_builtin F.entry_type_call ?_⟩
 rw [Around.under_plain (weight_type_call_type "set" [] []) rfl];have h1:=F.called_set.notType;have h2:=F.called_set.canCreate;have X1:=F.typeCall_set_0
 repeat (any_goals (first|assumption|wp_step))
 refine codeAny_mono (rZ (E:=E) (Q₁:=λobj s₁=>obj= .ref s.heap.objs.size∧s₁={s with heap:=s.heap.push {cls:= .type "set",dict:=none,data:= .set #[] 0 (.fresh 0 0 (!dM w))}}) ⟨rfl,rfl⟩) λr s₁ hr=>?_
 cases r with
 |error e=>exact hr
 |ok fl=>
  cases fl with
  |ret obj=>
   obtain ⟨rfl,rfl⟩:=hr;have hS:(s.heap.push {cls:= .type "set",dict:=none,data:= .set #[] 0 (.fresh 0 0 (!dM w))}).get? s.heap.objs.size=some {cls:= .type "set",dict:=none,data:= .set #[] 0 (.fresh 0 0 (!dM w))}:=Heap.get?_push_size _ rfl;have hT:Shared.TypeIs {s with heap:=s.heap.push {cls:= .type "set",dict:=none,data:= .set #[] 0 (.fresh 0 0 (!dM w))}} (.ref s.heap.objs.size) "set":=⟨_,hS,rfl⟩
   have X4:=F.called_set.init.lookup;have X0:=F.called_set.init.bind (.ref s.heap.objs.size)
   repeat (any_goals (first|assumption|wp_step))
   refine codeAny_mono (codeAny_call_builtin (R:=wants (λr BL=>r= .none∧Q (.ref s.heap.objs.size) BL) E) F.called_set.init.plain F.entry_set_init (check_set_init hT ?_)) λQN BL zT=>?_
   ·unfold Builtin.«set.__init__» noKeywords
    wp_walk
    exact ⟨rfl,h⟩
   ·cases QN with
    |error e=>exact zT
    |ok Kq=>
     cases Kq with
     |ret r=>
      obtain ⟨rfl,hq⟩:=zT
      repeat (any_goals (first|assumption|wp_step))
     |_=>exact zT.elim
  |_=>exact hr.elim
theorem fF.new(w:World):fF (dM w) {cls:= .type "set",dict:=none,data:= .set #[] 0 (.fresh 0 0 (!dM w))} #[] 0 (.fresh 0 0 (!dM w)) where
 ex:=⟨rfl,rfl,rfl⟩
 dat:=rfl
 tok:=⟨.inl rfl,rfl,λi j hj=>by simp [SetTable.fresh] at hj,rfl,λi j h=>by simp [SetTable.fresh] at h,by simp [SetTable.fresh],λi h e=>by simp at e⟩
 pl:=rfl
 ld:=rfl
 few:=by simp [SetTable.fresh]
end
namespace F
theorem qQ:entryFor table "set.__iter__"=some Builtin.«frozenset.__iter__»:=
 entryFor_alias (id':="frozenset.__iter__") (by kernel_rfl) rfl (by decide+kernel) (by kernel_rfl)
theorem gy:Manifest.owners.lookup (String.ofList ['r','o','t','a','r','e','t','i','_','t','e','s'].reverse)=some Manifest.sig_set_iterator:=by kernel_rfl
theorem br:Slot "set_iterator" "__next__" "set_iterator.__next__":=
 .of (owner:="set_iterator") (n:="__next__") (by rw [typeLookup_type,builtinLookup_eq_fast];kernel_rfl) (by decide+kernel) (by decide+kernel) (by decide+kernel)
  (by first|exact .inl (by decide+kernel) |exact .inr (by decide+kernel)) (by rw [isSubtype_type];kernel_rfl)
theorem eU:entryFor table "set_iterator.__next__"=some Builtin.«set_iterator.__next__»:=entryFor_of_tree (by kernel_rfl)
theorem eH(a:Value):argsOk "set_iterator.__next__" ⟨[a],[]⟩:=by
 unfold argsOk;rw [signature?_of (id:="set_iterator.__next__") (n:= ['_','_','t','x','e','n','_','_']) (o:= ['r','o','t','a','r','e','t','i','_','t','e','s']) (by kernel_rfl) gy];kernel_rfl
theorem fc:Slot "set_iterator" "__iter__" "set_iterator.__iter__":=
 .of (owner:="set_iterator") (n:="__iter__") (by rw [typeLookup_type,builtinLookup_eq_fast];kernel_rfl) (by decide+kernel) (by decide+kernel) (by decide+kernel)
  (by first|exact .inl (by decide+kernel) |exact .inr (by decide+kernel)) (by rw [isSubtype_type];kernel_rfl)
theorem iI:entryFor table "set_iterator.__iter__"=some Builtin.«dict_keyiterator.__iter__»:=
 entryFor_alias (id':="dict_keyiterator.__iter__") (by kernel_rfl) rfl (by decide+kernel) (by kernel_rfl)
theorem ig(a:Value):argsOk "set_iterator.__iter__" ⟨[a],[]⟩:=by
 unfold argsOk;rw [signature?_of (id:="set_iterator.__iter__") (n:= ['_','_','r','e','t','i','_','_']) (o:= ['r','o','t','a','r','e','t','i','_','t','e','s']) (by kernel_rfl) gy];kernel_rfl
end F
theorem qz{α:Type}:∀(l:List α)(i:Nat)(h:i<l.length),(l[i]::l.eraseIdx i).Perm l
 |y::l,0,_=> .refl _
 |y::l,i+1,h=>by
  have:=qz l i (by simpa using h)
  simp only [List.getElem_cons_succ,List.eraseIdx_cons_succ];exact (List.Perm.swap ..).trans (this.cons y)
theorem yH{α:Type}(next:Nat→Nat):∀(fuel k:Nat)(left:List α)(out:Array α),left.length≤fuel→(pickOrder.go next fuel k left out).toList.Perm (out.toList++left)
 |0,k,left,out,h=>by
  have:left= []:=BQ.mp (by omega)
  subst this;simp [pickOrder.go]
 |fuel+1,k,[],out,h=>by
  simp [pickOrder.go]
 |fuel+1,k,y::left,out,h=>by
  have lt:next k%(y::left).length<(y::left).length:=mJ _ (by simp)
  unfold pickOrder.go;rw [bq lt];dsimp only;refine (yH next fuel (k+1) _ _ (by rw [List.length_eraseIdx_of_lt lt];simp at h ⊢;omega)).trans ?_
  rw [Array.toList_push,mF];refine List.Perm.append_left _ ?_;exact qz _ _ lt
def dU(w:World)(a:Addr)(ep:Nat)(es:Array (Int×Value)):Array (Int×Value):=if dM w=true then pickOrder (w.params.setOrder a ep) es else es
theorem tG(w:World)(a:Addr)(ep:Nat)(es:Array (Int×Value)):(dU w a ep es).toList.Perm es.toList:=by
 unfold dU
 split
 ·unfold pickOrder
  simpa using yH (w.params.setOrder a ep) es.size 0 es.toList #[] (by simp)
 ·exact .refl _
theorem hU(w:World)(a:Addr)(ep:Nat)(es:Array (Int×Value)):(dU w a ep es).size=es.size:=by
 rw [←gd,(tG w a ep es).length_eq,gd]
def cQ(w:World)(t:SetTable)(i:Nat):Nat:=if dM w=true then 0 else if i=0 then 0 else t.place[i-1]! +1
section
variable {prog:Program} {w:World} {A:Around} {E:Value→Shared→Prop} {s:Shared}
theorem xJ{t:SetTable}{hs:List Int}(T:TOk t hs)(hb:dM w=false){i:Nat}(hi:i≤hs.length):below t.place (cQ w t i)=i:=by
 have sz:=T.size;obtain ⟨b1,b2,b3⟩:=fV T.rise (cQ w t i);unfold cQ at*;rw [if_neg (by rw [hb];exact bY)] at*
 by_cases z:i=0
 ·rw [if_pos z] at*
  rcases Nat.eq_zero_or_pos (below t.place 0) with h|h
  ·rw [h,z]
  ·exact absurd (b2 0 h) (Nat.not_lt_zero _)
 ·rw [if_neg z] at*
  generalize below t.place (t.place[i-1]! +1)=b at*
  rcases Nat.lt_trichotomy b i with h|h|h
  ·have:=b3 (i-1) (by omega) (by omega)
   omega
  ·exact h
  ·have:=b2 i h
   have:=T.rise (i-1) i (by omega) (by omega)
   omega
theorem jr{a:Addr}{o:Obj}{es:Array (Int×Value)}{ep:Nat}{t:SetTable}{i:Nat}{Q:Option (Value×Nat)→Shared→Prop}(ho:s.heap.get? a=some o)(S:fF (dM w) o es ep t)(hi:i≤es.size)
  (h:Q (((dU w a ep es)[i]?).map λe=>(e.2,cQ w t (i+1))) s):wpAny (model prog w) A (setNext a (cQ w t i) i ep) Q E s:=by
 have hd:=S.dat;have hf:=S.fits;unfold setNext;refine wpAny_bind (wpAny_setState_of ho hd hf ?_);dsimp only;unfold setsByText;refine wpAny_bind (wpAny_bind (wpAny_askSetting (wpAny_pure ?_)));cases hb:dM w with
 |true=>
  refine wpAny_ite_true (decide_eq_true (show w.params.followText "set-order"=true from hb)) ?_;rw [if_neg (by simp)]
  unfold setWalk setsByText;refine wpAny_bind (wpAny_bind (wpAny_setState_of ho hd hf ?_));dsimp only;refine wpAny_bind (wpAny_bind (wpAny_askSetting (wpAny_pure ?_)));refine wpAny_ite_true (decide_eq_true (show w.params.followText "set-order"=true from hb)) ?_;refine wpAny_bind (wpAny_askSetting (wpAny_pure (wpAny_pure ?_)));unfold dU cQ at h;rw [if_pos hb,if_pos hb] at h;unfold cQ;rw [if_pos hb];exact h
 |false=>
  refine wpAny_ite_false (decide_eq_false (show ¬w.params.followText "set-order"=true from by rw [show w.params.followText "set-order"=false from hb];exact bY)) ?_
  refine wpAny_ite_false ?_ ?_
  ·refine decide_eq_false ?_
   show ¬((!t.plain&&decide (es.size>1))=true);rw [S.pl];simp
  refine wpAny_bind ?_;show wpAny _ _ (if (!t.led&& !es.isEmpty)=true then _ else _) _ _ _;rw [if_neg (by rw [S.ld,hb];simp)]
  refine wpAny_pure ?_;have bn:=xJ (w:=w) S.tok hb (i:=i) (by simpa using hi)
  rw [bn];refine wpAny_pure ?_;have sz:t.place.size=es.size:=by rw [S.tok.size];simp
  unfold dU at h;rw [if_neg (by rw [hb];exact bY)] at h
  by_cases lt:i<es.size
  ·have lp:i<t.place.size:=by omega
   rw [qI lt] at h ⊢;rw [qI lp];dsimp only
   have e:cQ w t (i+1)=t.place[i]+1:=by
    unfold cQ;rw [if_neg (by rw [hb];exact bY),if_neg (by omega)]
    simp [lp]
   rw [Option.map_some,e] at h;exact h
  ·rw [xo (by omega)] at h ⊢
   exact h
end
def fL(w:World)(h:Heap)(I a:Addr)(t:SetTable)(i n ep:Nat):Prop:=
 ∃o,h.get? I=some o∧o.cls= .type "set_iterator"∧o.data= .fields #[.int (cQ w t i:Nat) 0, .int i 0, .ref a, .int n 0, .int ep 0]
section
variable {prog:Program} {w:World} {A:Around} {E:Value→Shared→Prop} {s:Shared}
theorem fL.typeIs{I a:Addr}{t:SetTable}{i n ep:Nat}(x:fL w s.heap I a t i n ep):s.TypeIs (.ref I) "set_iterator":=let ⟨o,ho,hc,_⟩:=x;⟨o,ho,hc⟩
theorem oZ{a:Addr}{o:Obj}{es:Array (Int×Value)}{ep:Nat}{t:SetTable}{Q:Value→Shared→Prop}(ho:s.heap.get? a=some o)(S:fF (dM w) o es ep t)
  (hQ:Q (.ref s.heap.objs.size) {s with heap:=s.heap.push {cls:= .type "set_iterator",data:= .fields #[.int (cQ w t 0:Nat) 0, .int (0:Nat) 0, .ref a, .int es.size 0, .int ep 0]}}):
  wpAny (model prog w) A (pyIter (.ref a)) Q E s:=by
 have hd:=S.dat;have hf:=S.fits;have hT:s.TypeIs (.ref a) "set":=⟨o,ho,S.ex.1⟩;refine wpAny_pyIter_slot hT F.slot_set_iter (wpAny_call_entry F.slot_set_iter hT F.qQ ?_ (F.args_set_iter_1 _));unfold Builtin.«frozenset.__iter__» Builtin.Frozenset.slot0 slotArgs;simp only [List.isEmpty_nil,Bool.not_true,vK, ↓reduceIte,bind_assoc,pC,bne_self_eq_false];unfold Builtin.Frozenset.addrOf Builtin.Frozenset.sizeOf;refine wpAny_bind (wpAny_pure ?_)
 try dsimp only
 refine wpAny_bind (wpAny_pure ?_);refine wpAny_bind (wpAny_bind (wpAny_setEntries_of ho hd hf (wpAny_pure ?_)));unfold setDrawn setsByText;refine wpAny_bind (wpAny_bind (wpAny_setState_of ho hd hf ?_));dsimp only;refine wpAny_bind (wpAny_bind (wpAny_askSetting (wpAny_pure ?_)));refine wpAny_pure ?_;refine wpAny_ite_false ?_ ?_
 ·refine decide_eq_false ?_
  show ¬((!w.params.followText "set-order"&&(!t.plain&&decide (es.size>1)))=true);rw [S.pl];simp
 refine wpAny_bind (wpAny_pure ?_);refine wpAny_bind ?_;unfold setEpoch;refine wpAny_bind (wpAny_setState_of ho hd hf (wpAny_pure ?_));refine wpAny_bind (wpAny_newObj_type (wpAny_pure ⟨_,rfl,"set_iterator",_,⟨_,Heap.get?_push_size _ rfl,rfl⟩,F.br.lookup,?_⟩));have e:cQ w t 0=0:=by unfold cQ;simp
 rw [e] at hQ;exact hQ
theorem pb{I a:Addr}{o:Obj}{es:Array (Int×Value)}{ep:Nat}{t:SetTable}{i:Nat}{x:Int×Value}{Q:Option Value→Shared→Prop}(hit:fL w s.heap I a t i es.size ep)(ho:s.heap.get? a=some o)(S:fF (dM w) o es ep t)
  (hx:(dU w a ep es)[i]? =some x) (hQ:∀h',fL w h' I a t (i+1) es.size ep→Heap.SameBut I s.heap h'→Q (some x.2) {s with heap:=h'}):wpAny (model prog w) A (pyNext (.ref I)) Q E s:=by
 obtain ⟨oi,Cf,hc,hd⟩:=id hit
 have hi:i<es.size:=by
  have:=(zb.mp hx).1
  rwa [hU] at this
 unfold pyNext
 refine wpAny_bind (wpAny_attempt (wpAny_callSpecial?_slot (name:=Str.ofString "__next__") hit.typeIs F.br
  (wpAny_call_entry F.br hit.typeIs F.eU ?_ (F.eH _))))
 unfold Builtin.«set_iterator.__next__»;refine wpAny_bind (m:=slotArgs "__next__" 0 _) (wpAny_pure ?_);refine wpAny_bind (wpAny_fieldsOf Cf hd ?_);dsimp only;refine wpAny_bind (wpAny_setEntries_of ho S.dat S.fits ?_);rw [if_neg (by simp)]
 refine wpAny_bind ?_;rw [ug,ug,ug];refine jr ho S (nB hi) ?_;rw [hx];dsimp only [Option.map_some];refine wpAny_bind (wpAny_setField Cf hd (by simp) ?_)
 have mT:=Heap.get?_update_self (Obj.mapFields (·.setIfInBounds 0 (rawInt (cQ w t (i+1):Nat)))) Cf (Obj.isFreed_of_fields (Obj.data_mapFields hd _));have KP:=Obj.data_mapFields hd (·.setIfInBounds 0 (rawInt (cQ w t (i+1):Nat)));refine wpAny_bind (wpAny_setField mT KP (by simp) ?_)
 have yg:=Heap.get?_update_self (Obj.mapFields (·.setIfInBounds 1 (rawInt ((i:Int)+1)))) mT (Obj.isFreed_of_fields (Obj.data_mapFields KP _));refine wpAny_pure ⟨_,rfl,wpAny_pure (hQ _ ⟨_,yg,?_,?_⟩ ((Heap.SameBut.update ..).trans (Heap.SameBut.update ..)))⟩
 ·exact (Obj.cls_mapFields ..).trans ((Obj.cls_mapFields ..).trans hc)
 ·rw [Obj.data_mapFields KP];simp [rawInt]
theorem kh{I a:Addr}{o:Obj}{es:Array (Int×Value)}{ep:Nat}{t:SetTable}{Q:Option Value→Shared→Prop}(hh:A.handled=none)(hit:fL w s.heap I a t es.size es.size ep)(ho:s.heap.get? a=some o)(S:fF (dM w) o es ep t)
  (hQ:∀h',Heap.ExtBut I s.heap h'→Q none {s with heap:=h'}):wpAny (model prog w) A (pyNext (.ref I)) Q E s:=by
 obtain ⟨oi,Cf,hc,hd⟩:=id hit;unfold pyNext
 refine wpAny_bind (wpAny_attempt (wpAny_callSpecial?_slot (name:=Str.ofString "__next__") hit.typeIs F.br
  (wpAny_call_entry F.br hit.typeIs F.eU ?_ (F.eH _))))
 unfold Builtin.«set_iterator.__next__»;refine wpAny_bind (m:=slotArgs "__next__" 0 _) (wpAny_pure ?_);refine wpAny_bind (wpAny_fieldsOf Cf hd ?_);dsimp only;refine wpAny_bind (wpAny_setEntries_of ho S.dat S.fits ?_);rw [if_neg (by simp)]
 refine wpAny_bind ?_;rw [ug,ug,ug];refine jr ho S (bh _) ?_;rw [xo (by rw [hU];exact bh _)]
 dsimp only [Option.map_none];refine wpAny_bind (wpAny_setField Cf hd (by simp) ?_)
 show wpAny _ _ (newExc (.type "StopIteration") []>>=_) _ _ _;refine wpAny_bind ?_;simp only [newExc,newTuple];refine wpAny_bind (wpAny_newObj_type ?_ (by size_fits))
 refine wpAny_bind (m:=firstArgMember _ _) (wpAny_of_eq (a:=Value.none) (by first|rfl| (simp only [firstArgMember];rfl)) ?_)
 refine wpAny_newObj_type ?_ (by size_fits)
 simp only [raiseNew];refine wpAny_bind (wpAny_handled ?_);rw [show A.in1.handled=none from hh];refine wpAny_bind (wpAny_pure (wpAny_throw ?_));refine wpAny_bind (wpAny_isInstance (T:="StopIteration") (b:=true) ⟨_,Heap.get?_push_size _ rfl,rfl⟩ isSubtype_stop ?_);exact wpAny_pure (hQ _ (((Heap.SameBut.update ..).extBut.push _).push _))
theorem Walks.sets(hh:A.handled=none)(I a:Addr)(zS:a≠I){o:Obj}{es:Array (Int×Value)}{ep:Nat}{t:SetTable}(S:fF (dM w) o es ep t):
  Walks prog w A I [I,a] [I] es.size (λi v=>∃x,(dU w a ep es)[i]? =some x∧v=x.2) (λi h=>fL w h I a t i es.size ep∧h.get? a=some o) where
 sub:=λb hb=>by simp at hb;simp [hb]
 frame:=λi h h' st hk=>⟨let ⟨oi,ho,r⟩:=st.1;⟨oi,hk I (by simp) _ ho,r⟩,hk a (by simp) _ st.2⟩
 item:=λi s Q E hi st hQ=>by
  have hx:(dU w a ep es)[i]? =some ((dU w a ep es)[i]'(by rw [hU];exact hi)):=qI _
  refine pb st.1 st.2 S hx λh' Ep wF=>?_;exact hQ _ h' s.toks ⟨_,hx,rfl⟩ ⟨Ep,(wF.2 a zS).trans st.2⟩ λb o hb e=>wF.extBut b o (λh=>hb (by simp [h])) e
 done:=λs Q E st hQ=>kh hh st.1 st.2 S λh' KR=>hQ h' s.toks λb o hb e=>KR b o (λh=>hb (by simp [h])) e
 self:=λi s Q E st hQ=>by
  refine wpAny_pyIter_slot st.1.typeIs F.fc (wpAny_call_entry F.fc st.1.typeIs F.iI ?_ (F.ig _));unfold Builtin.«dict_keyiterator.__iter__»;refine wpAny_bind (m:=slotArgs "__iter__" 0 _) (wpAny_pure ?_);exact wpAny_pure ⟨_,rfl,"set_iterator",_,st.1.typeIs,F.br.lookup,hQ⟩
end
section
variable {prog:Program} {w:World} {A:Around} {E:Value→Shared→Prop} {s:Shared}
theorem nv{a:Addr}{o:Obj}{es:Array (Int×Value)}{ep:Nat}{t:SetTable}{Q:List Value→Shared→Prop}(hh:A.handled=none)(ho:s.heap.get? a=some o)(S:fF (dM w) o es ep t)
  (hQ:∀h' tk,s.heap.objs.size<h'.objs.size→(∀b o,s.heap.get? b=some o→h'.get? b=some o)→Q ((dU w a ep es).toList.map (·.2)) {s with heap:=h',toks:=tk}) (hn:es.size≤sizeLine:=by size_fits):
  wpAny (model prog w) A (collect (.ref a)) Q E s:=by
 have ha:a<s.heap.objs.size:=Heap.lt_size ho;unfold collect;refine wpAny_bind (wpAny_runValue (codeAny_builtin F.entry_proto_collect ?_));rw [Around.under_plainId F.plain_proto_collect _];show wpAny _ A.in1 (newList []>>=λl=>again (.builtin "list.__iadd__" ⟨[l, .ref a],[]⟩)) _ _ s;refine wpAny_bind (wpAny_newObj_type ?_);refine wpAny_pure ⟨plainId_quiet F.plain_list_iadd _,codeAny_builtin F.entry_list_iadd ?_⟩;rw [Around.under_plainId F.plain_list_iadd _];have mT:(s.heap.push {cls:= .type "list",data:= .seq ([]:List Value).toArray}).get? a=some o:=Heap.get?_push_of_some _ ho;show wpAny _ A.in1 (Builtin.List.listExtendWith (.ref s.heap.objs.size) (.ref a) (.ref s.heap.objs.size)) _ _ {s with heap:=s.heap.push {cls:= .type "list",data:= .seq ([]:List Value).toArray}}
 unfold Builtin.List.listExtendWith;have hT:Shared.TypeIs {s with heap:=s.heap.push {cls:= .type "list",data:= .seq ([]:List Value).toArray}} (.ref a) "set":=⟨o,mT,S.ex.1⟩
 refine wpAny_bind (wpAny_typeOf hT ?_);have h1:Builtin.List.listSameRef (.ref s.heap.objs.size) (.ref a)=false:=by simp [Builtin.List.listSameRef,Nat.ne_of_gt ha]
 have h2:(Value.type "set"==Value.type "list")=false:=by decide
 have h3:(Value.type "set"==Value.type "tuple")=false:=by decide
 simp only [h1,h2,h3,Bool.or_false,vK,if_false];refine wpAny_bind (oZ mT S ?_);generalize hI:(s.heap.push {cls:= .type "list",data:= .seq ([]:List Value).toArray}).objs.size=I;have Ky:I=s.heap.objs.size+1:=by rw [←hI,size_push']
 have TH:a≠I:=by rw [Ky];exact bZ (Nat.lt_succ_of_lt ha)
 have GH:s.heap.objs.size≠I:=by rw [Ky];exact bZ (Nat.lt_succ_self _)
 have Oi:s.heap.objs.size≠a:=Nat.ne_of_gt ha;have KC:((s.heap.push {cls:= .type "list",data:= .seq ([]:List Value).toArray}).push {cls:= .type "set_iterator",data:= .fields #[.int (cQ w t 0:Nat) 0, .int (0:Nat) 0, .ref a, .int es.size 0, .int ep 0]}).get? s.heap.objs.size=some {cls:= .type "list",data:= .seq ([]:List Value).toArray}:=Heap.get?_push_of_some _ (Heap.get?_push_size _ rfl);have B8:((s.heap.push {cls:= .type "list",data:= .seq ([]:List Value).toArray}).push {cls:= .type "set_iterator",data:= .fields #[.int (cQ w t 0:Nat) 0, .int (0:Nat) 0, .ref a, .int es.size 0, .int ep 0]}).get? I=some {cls:= .type "set_iterator",data:= .fields #[.int (cQ w t 0:Nat) 0, .int (0:Nat) 0, .ref a, .int es.size 0, .int ep 0]}:=by rw [←hI];exact Heap.get?_push_size _ rfl
 have KH:((s.heap.push {cls:= .type "list",data:= .seq ([]:List Value).toArray}).push {cls:= .type "set_iterator",data:= .fields #[.int (cQ w t 0:Nat) 0, .int (0:Nat) 0, .ref a, .int es.size 0, .int ep 0]}).get? a=some o:=Heap.get?_push_of_some _ mT;have Jl:∀b o,s.heap.get? b=some o→((s.heap.push {cls:= .type "list",data:= .seq ([]:List Value).toArray}).push {cls:= .type "set_iterator",data:= .fields #[.int (cQ w t 0:Nat) 0, .int (0:Nat) 0, .ref a, .int es.size 0, .int ep 0]}).get? b=some o:=λb o e=>Heap.get?_push_of_some _ (Heap.get?_push_of_some _ e);generalize ((s.heap.push {cls:= .type "list",data:= .seq ([]:List Value).toArray}).push {cls:= .type "set_iterator",data:= .fields #[.int (cQ w t 0:Nat) 0, .int (0:Nat) 0, .ref a, .int es.size 0, .int ep 0]})=h2 at KC B8 KH Jl ⊢;have KG:Shared.TypeIs {s with heap:=h2} (.ref a) "set":=⟨o,KH,S.ex.1⟩
 refine wpAny_bind (wpAny_holding ?_);unfold Builtin.List.listLengthHint;refine wpAny_bind (wpAny_specialOf KG F.slot_set_len.lookup ?_)
 (generalize Cc:("set.__len__":String)=GP;(fail_if_success (clear Cc GP));wp_delta;rw [show splitId GP=some ("set","__len__") from by subst Cc;decide+kernel];subst Cc)
 refine wpAny_bind (wpAny_isInstance (b:=true) KG sub_set_self ?_);dsimp only;refine wpAny_ite_false (by decide) ?_
 refine wpAny_ite_true (by decide+kernel) ?_
 refine wpAny_bind (wpAny_typeOf KG ?_);refine wpAny_pure ?_;refine wpAny_ite_true (by decide+kernel) ?_
 refine wpAny_bind (wpAny_rule ?_);refine wpAny_bind ?_;show wpAny _ A.in1 (updateSeq s.heap.objs.size (·.push .none)>>=λ_=>updateSeq s.heap.objs.size (·.pop)) _ _ _;refine wpAny_bind (wpAny_updateSeq KC rfl ?_);have wz:=Heap.get?_update_self (Obj.mapSeq (·.push Value.none)) KC rfl;refine wpAny_updateSeq wz rfl ?_;have KD:=Heap.get?_update_self (Obj.mapSeq (·.pop)) wz rfl
 have CB:∀b o,b≠s.heap.objs.size→h2.get? b=some o→
   ((h2.update s.heap.objs.size (Obj.mapSeq (·.push Value.none))).update s.heap.objs.size (Obj.mapSeq (·.pop))).get? b=some o:=
  λb o hb e=>(Heap.get?_update_other _ _ (Ne.symm hb)).trans ((Heap.get?_update_other _ _ (Ne.symm hb)).trans e)
 have W:=(Walks.sets (prog:=prog) (A:=A.in1) hh I a TH S).toS;have ne1:s.heap.objs.size∉ [I,a]:=by simp [GH,Oi]
 refine wpAny_pure ⟨plainId_quiet F.plain_extend_loop _,codeAny_extend_loopS W hn _ ne1 _ es.size 0 _ _ _ rfl (b9 _)
  ⟨⟨_,CB _ _ (Ne.symm GH) B8,rfl,rfl⟩,CB _ _ (Ne.symm Oi) KH⟩ KD (ItemsOf.nil _) λs' bO c' hm wy n9=>?_⟩
 show wpAny _ A (load s.heap.objs.size>>=_) _ _ s';refine wpAny_bind (wpAny_load wy ?_)
 have iK:s'={s with heap:=s'.heap,toks:=s'.toks}:=by
  obtain ⟨iL,g',d',Ye,LD⟩:=s';obtain ⟨_,hg,hd,wD,_⟩:=hm;have hg:g'=s.gens:=hg;have hd:d'=s.drawn:=hd;have wD:LD=s.os:=wD;subst hg hd wD;rfl
 have ea:bO.toList=(dU w a ep es).toList.map (·.2):=by
  refine List.ext_getElem? λj=>?_;rw [pj,eJ,pj];have sz:bO.size=(dU w a ep es).size:=by rw [n9.1,hU]
  by_cases lt:j<bO.size
  ·obtain ⟨x,hx,hv⟩:=n9.2 j bO[j] (qI lt)
   rw [hx,qI lt,hv];rfl
  ·rw [xo (by omega),xo (by omega)];rfl
 rw [iK];show wpAny _ _ (pure bO.toList) Q E _;rw [ea];refine wpAny_pure (hQ _ _ (Heap.lt_size wy) λb o e=>?_);have hb:=Heap.lt_size e;have b1:b≠s.heap.objs.size:=bZ hb;have b2:b≠I:=by rw [Ky];exact bZ (Nat.lt_succ_of_lt hb)
 exact hm.heap b o (by simp [b1,b2]) (CB b o b1 (Jl b o e))
theorem sP{vs us:List Value}(p:us.Perm vs):∀{ns:List Int},IntsAre vs ns→∃ms,IntsAre us ms∧ms.Perm ns:=by
 induction p with
 |nil=>intro ns h;exact ⟨ns,h, .refl _⟩
 |cons x _ ih=>
  intro ns h;cases h with
  |cons n t h=>
   obtain ⟨ms,a,b⟩:=ih h;exact ⟨n::ms, .cons n t a,b.cons n⟩
 |swap x y l=>
  intro ns h;cases h with
  |cons n t h=>
   cases h with
   |cons m u h=>exact ⟨_, .cons m u (.cons n t h), .swap ..⟩
 |trans _ _ Uw Uy=>
  intro ns h;obtain ⟨ms,a,b⟩:=Uy h;obtain ⟨ls,c,d⟩:=Uw a;exact ⟨ls,c,d.trans b⟩
theorem yT{a:Addr}{o:Obj}{es:Array (Int×Value)}{ep:Nat}{t:SetTable}{ns:List Int}{Q:Value→Shared→Prop}(hh:A.handled=none)(ho:s.heap.get? a=some o)(S:fF (dM w) o es ep t)(hI:IntsAre (es.toList.map (·.2)) ns)(Tz:es.size<64)
  (h:∀h' tk q (out:Array Value) (e:Nat) (ms:List Int),(∀b o,s.heap.get? b=some o→h'.get? b=some o)→s.heap.objs.size≤q→h'.get? q=some {cls:= .type "list",data:= .seq out e}→IntsAre out.toList ms→ms.Perm ns→ms.Pairwise (·≤·)→Q (.ref q) {s with heap:=h',toks:=tk}):
  wpAny (model prog w) A (call (.builtin "sorted") [.ref a]) Q E s:=by
 have pm:=(tG w a ep es).map (λe:Int×Value=>e.2);obtain ⟨Lq,i1,i2⟩:∃Lq,IntsAre ((dU w a ep es).toList.map (·.2)) Lq∧Lq.Perm ns:=sP pm hI;have sz:((dU w a ep es).toList.map (·.2)).length=es.size:=by rw [aJ,gd,hU]
 refine Calls.call_function_entry kind_sorted plain_sorted entry_sorted (args_sorted1 _) ?_;unfold Builtin.«sorted»;refine wpAny_bind (m:=checkCount "sorted" 1 1 _) (wpAny_pure ?_);have line:64≤sizeLine:=by decide
 refine wpAny_bind (nv hh ho S (λh1 Md ke Qi=>?_) (by omega))
 refine wpAny_bind (wpAny_newList ?_ (by rw [sz];omega))
 have Es:(h1.push (seqObj "list" ((dU w a ep es).toList.map (·.2)).toArray 0)).get? h1.objs.size=some (seqObj "list" ((dU w a ep es).toList.map (·.2)).toArray 0):=Heap.get?_push_size _ rfl;refine wpAny_bind (wpAny_holding (wpAny_call_entry slot_list_sort ⟨_,Es,rfl⟩ entry_list_sort (list_sort_tree Es i1 (by rw [sz];exact Tz) λout ms a1 a2 a3=>⟨_,rfl,?_⟩) (args_list_sort _)))
 obtain ⟨e1,mT⟩:∃e1,((h1.push (seqObj "list" ((dU w a ep es).toList.map (·.2)).toArray 0)).update h1.objs.size (Obj.mapSeq λ_=> #[])).get? h1.objs.size=some (seqObj "list" #[] e1):=⟨_,get?_update_seq Es (λ_=> #[])⟩;have qS:((h1.push (seqObj "list" ((dU w a ep es).toList.map (·.2)).toArray 0)).update h1.objs.size (Obj.mapSeq λ_=> #[])).objs.size=h1.objs.size+1:=by rw [Heap.size_update,size_push']
 have GN:((((h1.push (seqObj "list" ((dU w a ep es).toList.map (·.2)).toArray 0)).update h1.objs.size (Obj.mapSeq λ_=> #[])).push (seqObj "tuple" ((dU w a ep es).toList.map (·.2)).toArray 0)).push (seqObj "list" #[] 0)).get? h1.objs.size=some (seqObj "list" #[] e1):=
  Heap.get?_push_of_some _ (Heap.get?_push_of_some _ mT)
 have Ow:=get?_update_seq GN (λ_=>out);refine wpAny_pure ⟨_,rfl,h _ _ h1.objs.size out _ ms (λb o e=>?_) (nB ke) Ow a1 (a2.trans i2) a3⟩;have eb:=Qi b o e;have nb:b≠h1.objs.size:=bZ (Heap.lt_size eb);show ((((((h1.push (seqObj "list" ((dU w a ep es).toList.map (·.2)).toArray 0)).update h1.objs.size (Obj.mapSeq λ_=> #[])).push (seqObj "tuple" ((dU w a ep es).toList.map (·.2)).toArray 0)).push (seqObj "list" #[] 0)).update h1.objs.size (Obj.mapSeq λ_=>out))).get? b=some o;rw [Heap.get?_update_ne _ _ _ _ nb];refine Heap.get?_push_of_some _ (Heap.get?_push_of_some _ ?_);rw [Heap.get?_update_ne _ _ _ _ nb];exact Heap.get?_push_of_some _ eb
end
end PySem
set_option maxHeartbeats 4000000
namespace L2
open PySem PySem.Spec PyProof.Rows
inductive FV where
 |int (i:Int) |bl (b:Bool)
inductive XD where
 |Jp (b:Bool) (ps:List (Int×Int)) |Jo (ks:List (Int×Int)) (vs:List FV)
inductive D where
 |aZ|bl (b:Bool) |int (i:Int) |str (x:Str) |lst (l:List D) |tup (l:List D) |jq (ns:List Int) |rng (lo hi:Int) |obj (a:Addr) |dN (w:List (List Nat)) |set (b:Bool) (l:List Int) |x (k:XD)
structure DC where
 K:PySem.W.Frag
 C:Addr
def af(n:Nat):D:= .int n
def ai(r:List Nat):D:= .lst (r.map af)
def aM(w:List (List Nat)):D:= .lst (w.map ai)
def qj(es:Array (Int×Value))(ns:List Int):Prop:=(∀e∈es.toList,∃k t,e=(hashInt k,Value.int k t))∧ns.Nodup∧∃ms,IntsAre (es.toList.map (·.2)) ms∧ms.Perm ns
def eG(b:Bool)(a:Addr)(ns:List Int)(h:Heap):Prop:=∃o es ep t,h.get? a=some o∧fF b o es ep t∧qj es ns
def CD(p:Int×Int):Int:=reduceHash (Builtin.Tuple.tupleHashOf [hashInt p.1,hashInt p.2])
inductive xA (H:Hp):List (Int×Addr)→List (Int×Int)→Prop
 |nil:xA H [] []
 |cons {a:Addr} {p:Int×Int} {es:List (Int×Addr)} {ps:List (Int×Int)}:H a=some (.tup [.int p.1, .int p.2])→xA H es ps→xA H ((CD p,a)::es) (p::ps)
theorem xA.mono{H H':Hp}(s:aG H H'):∀{es:List (Int×Addr)}{ps:List (Int×Int)},xA H es ps→xA H' es ps
 |_,_, .nil=> .nil
 |_,_, .cons h t=> .cons (s _ _ h) (t.mono s)
def JE(b:Bool)(a:Addr)(es:List (Int×Addr))(h:Heap):Prop:=∃o eA ep t,h.get? a=some o∧fF b o eA ep t∧eA.toList.Perm (es.map λe=>(e.1,Value.ref e.2))
def RH:FV→Value→Prop
 | .int i,v=>∃t,v= .int i t
 | .bl b,v=>v= .bool b
inductive Gh:List DictEntry→List (Int×Addr)→List FV→Prop
 |nil:Gh [] [] []
 |cons {e:DictEntry} {l:List DictEntry} {h:Int} {a:Addr} {v:FV} {es:List (Int×Addr)} {vs:List FV}:e.hash=h→e.key= .ref a→RH v e.val→Gh l es vs→Gh (e::l) ((h,a)::es) (v::vs)
def JD(a:Addr)(es:List (Int×Addr))(vs:List FV)(h:Heap):Prop:=∃o eA ep,h.get? a=some o∧o.ExactDict∧o.data= .dict eA ep∧Gh eA.toList es vs
def Dg(H:Hp)(a:Addr)(φ:Heap→Prop):XD→Prop
 | .Jp b ps=>ps.Nodup∧∃es,φ=JE b a es∧xA H es ps
 | .Jo ks vs=>ks.Nodup∧∃es,φ=JD a es vs∧xA H es ks
theorem Dg.mono{H H':Hp}(s:aG H H'){a:Addr}{φ:Heap→Prop}:∀{k:XD},Dg H a φ k→Dg H' a φ k
 | .Jp _ _,⟨n,es,e,p⟩=>⟨n,es,e,p.mono s⟩
 | .Jo _ _,⟨n,es,e,p⟩=>⟨n,es,e,p.mono s⟩
mutual
inductive Dv (Z:DC) (H:Hp):V→D→Prop
 |aZ:Dv Z H .aZ .aZ
 |bl (b:Bool):Dv Z H (.bl b) (.bl b)
 |int (i:Int):Dv Z H (.int i) (.int i)
 |str (x:Str) (h:PyData.strOk x=true):Dv Z H (.str x) (.str x)
 |lst {a:Addr} {xs:List V} {ds:List D}:H a=some (.lst xs)→aq Z H xs ds→Dv Z H (.ref a) (.lst ds)
 |tup {a:Addr} {xs:List V} {ds:List D}:H a=some (.tup xs)→aq Z H xs ds→Dv Z H (.ref a) (.tup ds)
 |obj (a:Addr):Dv Z H (.ref a) (.obj a)
 |rng {a:Addr} {lo hi:Int}:H a=some (.rng lo hi)→Dv Z H (.ref a) (.rng lo hi)
 |jq {a:Addr} {ns:List Int}:cc Z.K H a (ns.map V.int)→ns.length≤63→Dv Z H (.ref a) (.jq ns)
 |dN {p dx R:Addr} {w:List (List Nat)}:H p=some (.ins Z.C dx [("rows", .ref R)])→Dv Z H (.ref R) (aM w)→Wb.Good w→1≤w.length→w.length≤14→Dv Z H (.ref p) (.dN w)
 |set {a:Addr} {b:Bool} {ns:List Int}:H a=some (.ext (eG b a ns))→Dv Z H (.ref a) (.set b ns)
 |x {a:Addr} {φ:Heap→Prop} {k:XD}:H a=some (.ext φ)→Dg H a φ k→Dv Z H (.ref a) (.x k)
inductive aq (Z:DC) (H:Hp):List V→List D→Prop
 |nil:aq Z H [] []
 |cons {v:V} {vs:List V} {d:D} {ds:List D}:Dv Z H v d→aq Z H vs ds→aq Z H (v::vs) (d::ds)
end
theorem cc.mono{K:PySem.W.Frag}{H H':Hp}{a:Addr}{xs:List V}(s:aG H H')(h:cc K H a xs):cc K H' a xs:=by
 rcases h with (h| ⟨o,h⟩) |h
 ·exact .inl (.inl (s _ _ h))
 ·exact .inl (.inr ⟨o,s _ _ h⟩)
 ·exact .inr h
section
variable {Z:DC} {H H' G G':Hp}
theorem Dv.ofInt{v:V}{i:Int}(h:Dv Z H v (.int i)):v= .int i:=by cases h;rfl
theorem Dv.hJ{v:V}{ds:List D}(h:Dv Z H v (.lst ds)):∃a xs,v= .ref a∧H a=some (.lst xs)∧aq Z H xs ds:=by cases h with|lst h e=>exact ⟨_,_,rfl,h,e⟩
theorem Dv.tq{v:V}{ds:List D}(h:Dv Z H v (.tup ds)):∃a xs,v= .ref a∧H a=some (.tup xs)∧aq Z H xs ds:=by cases h with|tup h e=>exact ⟨_,_,rfl,h,e⟩
theorem Dv.EX{v:V}{ns:List Int}(h:Dv Z H v (.jq ns)):∃a,v= .ref a∧cc Z.K H a (ns.map V.int)∧ns.length≤63:=by cases h with|jq h z=>exact ⟨_,rfl,h,z⟩
theorem aq.Lv{vs:List V}(h:aq Z H vs []):vs= []:=by cases h;rfl
theorem aq.Bt{vs:List V}{d:D}{ds:List D}(h:aq Z H vs (d::ds)):∃v us,vs=v::us∧Dv Z H v d∧aq Z H us ds:=by cases h with|cons a b=>exact ⟨_,_,rfl,a,b⟩
theorem aq.ofOne{vs:List V}{d:D}(h:aq Z H vs [d]):∃v,vs= [v]∧Dv Z H v d:=by
 obtain ⟨v,us,rfl,a,b⟩:=h.Bt;rw [b.Lv];exact ⟨v,rfl,a⟩
theorem aq.Lw{vs:List V}{d e:D}(h:aq Z H vs [d,e]):∃v u,vs= [v,u]∧Dv Z H v d∧Dv Z H u e:=by
 obtain ⟨v,us,rfl,a,b⟩:=h.Bt;obtain ⟨u,rfl,c⟩:=b.ofOne;exact ⟨v,u,rfl,a,c⟩
mutual
theorem Dv.mono(s:aG H H'):∀{v:V}{d:D},Dv Z H v d→Dv Z H' v d
 |_,_, .aZ=> .aZ
 |_,_, .bl b=> .bl b
 |_,_, .int i=> .int i
 |_,_, .str x h=> .str x h
 |_,_, .lst h a=> .lst (s _ _ h) (aq.mono s a)
 |_,_, .tup h a=> .tup (s _ _ h) (aq.mono s a)
 |_,_, .obj a=> .obj a
 |_,_, .rng h=> .rng (s _ _ h)
 |_,_, .jq h z=> .jq (h.mono s) z
 |_,_, .dN h r g a b=> .dN (s _ _ h) (Dv.mono s r) g a b
 |_,_, .set h=> .set (s _ _ h)
 |_,_, .x h k=> .x (s _ _ h) (k.mono s)
theorem aq.mono(s:aG H H'):∀{vs:List V}{ds:List D},aq Z H vs ds→aq Z H' vs ds
 |_,_, .nil=> .nil
 |_,_, .cons a as=> .cons (Dv.mono s a) (aq.mono s as)
end
theorem aq.length:∀{vs:List V}{ds:List D},aq Z H vs ds→vs.length=ds.length
 |_,_, .nil=>rfl
 |_,_, .cons _ as=>congrArg (·+1) as.length
theorem aq.get:∀{vs:List V}{ds:List D}{i:Nat}{d:D},aq Z H vs ds→ds[i]? =some d→∃v,vs[i]? =some v∧Dv Z H v d
 |_,_,_,_, .nil,e=>by simp at e
 |_,_,0,_, .cons a as,e=>by simp at e;subst e;exact ⟨_,rfl,a⟩
 |_,_,i+1,d, .cons a as,e=>by
  obtain ⟨v,h1,h2⟩:=aq.get (i:=i) (d:=d) as (by simpa using e)
  exact ⟨v,by simpa using h1,h2⟩
theorem aq.Bg:∀{vs:List V}{ds:List D}{i:Nat}{v:V},aq Z H vs ds→vs[i]? =some v→∃d,ds[i]? =some d∧Dv Z H v d
 |_,_,_,_, .nil,e=>by simp at e
 |_,_,0,_, .cons a as,e=>by simp at e;subst e;exact ⟨_,rfl,a⟩
 |_,_,i+1,d, .cons a as,e=>by
  obtain ⟨v,h1,h2⟩:=aq.Bg (i:=i) (v:=d) as (by simpa using e)
  exact ⟨v,by simpa using h1,h2⟩
theorem aq.append:∀{vs us:List V}{ds es:List D},aq Z H vs ds→aq Z H us es→aq Z H (vs++us) (ds++es)
 |_,_,_,_, .nil,b=>b
 |_,_,_,_, .cons a as,b=> .cons a (as.append b)
theorem aq.take:∀{vs:List V}{ds:List D}(n:Nat),aq Z H vs ds→aq Z H (vs.take n) (ds.take n)
 |_,_,0,_=>by simpa using aq.nil
 |_,_,n+1, .nil=>by simpa using aq.nil
 |_,_,n+1, .cons a as=>by simpa using aq.cons a (as.take n)
theorem aq.drop:∀{vs:List V}{ds:List D}(n:Nat),aq Z H vs ds→aq Z H (vs.drop n) (ds.drop n)
 |_,_,0,h=>h
 |_,_,n+1, .nil=>by simpa using aq.nil
 |_,_,n+1, .cons a as=>by simpa using as.drop n
theorem aq.set{v:V}{d:D}(h:Dv Z H v d):∀{vs:List V}{ds:List D}(n:Nat),aq Z H vs ds→aq Z H (vs.set n v) (ds.set n d)
 |_,_,_, .nil=> .nil
 |_,_,0, .cons a as=> .cons h as
 |_,_,n+1, .cons a as=> .cons a (aq.set h n as)
theorem aq.rev:∀{vs:List V}{ds:List D},aq Z H vs ds→aq Z H vs.reverse ds.reverse
 |_,_, .nil=> .nil
 |_,_, .cons a as=>by
  rw [uf,uf];exact as.rev.append (.cons a .nil)
theorem aq.ints:∀(ns:List Int),aq Z H (ns.map V.int) (ns.map D.int)
 | []=> .nil
 |n::ns=> .cons (.int n) (aq.ints ns)
theorem aq.snoc{vs:List V}{ds:List D}{v:V}{d:D}(a:aq Z H vs ds)(b:Dv Z H v d):aq Z H (vs++ [v]) (ds++ [d]):=a.append (.cons b .nil)
structure Ext (G H G' H':Hp):Prop where
 gg:aG G G'
 sub:aG G' H'
 hh:aG H H'
 off:∀b,H b≠none→G b=none→G' b=none
theorem Ext.refl(s:aG G H):Ext G H G H:=⟨.refl _,s, .refl _,λ_ _ h=>h⟩
theorem Ext.trans{G1 H1 G2 H2:Hp}(a:Ext G H G1 H1)(b:Ext G1 H1 G2 H2):Ext G H G2 H2:=
 ⟨a.gg.trans b.gg,b.sub,a.hh.trans b.hh,λx h g=>b.off x (λz=>by
  cases e:H x with
  |none=>exact h e
  |some o=>rw [a.hh x o e] at z;cases z) (a.off x h g)⟩
theorem Ext.new{p:Addr}{o:HO}(s:aG G H)(h:H p=none):Ext G H (upd G p o) (upd H p o):=by
 have hg:G p=none:=s.free h;refine ⟨aQ hg o,λb u e=>?_,aQ h o,λb hb hg=>?_⟩
 ·by_cases z:b=p
  ·subst z;rw [aw] at e ⊢;exact e
  ·rw [aC z] at e ⊢;exact s b u e
 ·have:b≠p:=λz=>hb (by rw [z];exact h)
  rw [aC this];exact hg
end
abbrev DN:=List (Option D)
structure cC (Z:DC) (G:Hp) (σ:St) (ρ:DN):Prop where
 len:ρ.length=σ.length
 at_:∀(i:Nat)(d:D),ρ[i]? =some (some d)→∃v,σ[i]? =some (some v)∧Dv Z G v d
section
variable {Z:DC} {G G' H H':Hp} {σ:St} {ρ:DN}
theorem cC.mono(e:cC Z G σ ρ)(s:aG G G'):cC Z G' σ ρ:=⟨e.len,λi d h=>let ⟨v,a,b⟩:=e.at_ i d h;⟨v,a,b.mono s⟩⟩
theorem cC.set{i:Nat}{v:V}{d:D}(e:cC Z G σ ρ)(h:Dv Z G v d):cC Z G (σ.set i (some v)) (ρ.set i (some d)):=by
 refine ⟨by rw [j6,j6];exact e.len,λj c hj=>?_⟩
 by_cases z:i=j
 ·subst z
  by_cases hi:i<ρ.length
  ·rw [ph hi] at hj
   cases hj;exact ⟨v,by rw [ph (by rw [←e.len];exact hi)],h⟩
  ·rw [BO (mG hi)] at hj
   rw [j3 (mG hi)] at hj;cases hj
 ·rw [vH z] at hj ⊢
  exact e.at_ j c hj
end
abbrev aS:=DN→(D→Prop)→Prop
abbrev cN:=DN→(Bool→Prop)→Prop
abbrev gW:=DN→(List D→Prop)→Prop
abbrev fg:=D→D→(D→Prop)→Prop
abbrev cU:=D→DN→(DN→Prop)→Prop
abbrev fT:=DN→(List D→Prop)→Prop
def cO(Z:DC)(t:aS):TE:=λσ H Q=>∃(G:Hp)(ρ:DN)(P:D→Prop),aG G H∧cC Z G σ ρ∧t ρ P∧∀d,P d→∀v G' H',Ext G H G' H'→Dv Z G' v d→Q v H'
def liftT(Z:DC)(t:cN):TT:=λσ H Q=>∃(G:Hp)(ρ:DN)(P:Bool→Prop),aG G H∧cC Z G σ ρ∧t ρ P∧∀b,P b→∀G' H',Ext G H G' H'→Q b H'
def z8(Z:DC)(t:gW):TA:=λσ H Q=>∃(G:Hp)(ρ:DN)(P:List D→Prop),aG G H∧cC Z G σ ρ∧t ρ P∧∀ds,P ds→∀vs G' H',Ext G H G' H'→aq Z G' vs ds→Q vs H'
def bK(Z:DC)(r:fg):R2:=λx y H Q=>∃(G:Hp)(a b:D)(P:D→Prop),aG G H∧Dv Z G x a∧Dv Z G y b∧r a b P∧∀d,P d→∀v G' H',Ext G H G' H'→Dv Z G' v d→Q v H'
def jD(Z:DC)(r:List D→(D→Prop)→Prop):List V→Hp→VK→Prop:=λvs H Q=>∃(G:Hp)(ds:List D)(P:D→Prop),aG G H∧aq Z G vs ds∧r ds P∧∀d,P d→∀v G' H',Ext G H G' H'→Dv Z G' v d→Q v H'
abbrev cZ:=List D→(D→Prop)→Prop
def aV(Z:DC)(sd:cZ):Sp:=λvs H Q _=>jD Z sd vs H Q
def DE(Z:DC)(X:Cx)(e:Expr)(t:aS):Prop:=PE X e (cO Z t)
def DT(Z:DC)(X:Cx)(e:Expr)(t:cN):Prop:=PT X e (liftT Z t)
def DA(Z:DC)(X:Cx)(es:List Expr)(t:gW):Prop:=PA X es (z8 Z t)
theorem PE.imp{X:Cx}{e:Expr}{t t':TE}(h:PE X e t)(f:∀σ H Q,t' σ H Q→t σ H Q):PE X e t':=λpins s σ H Q I q=>h pins s σ H Q I (f _ _ _ q)
theorem PT.imp{X:Cx}{e:Expr}{t t':TT}(h:PT X e t)(f:∀σ H Q,t' σ H Q→t σ H Q):PT X e t':=λpins s σ H Q I q=>h pins s σ H Q I (f _ _ _ q)
theorem PW.imp{X:Cx}{e:Expr}{t t':TT}(h:PW X e t)(f:∀σ H Q,t' σ H Q→t σ H Q):PW X e t':=λwh pins s σ H Q I q=>h wh pins s σ H Q I (f _ _ _ q)
theorem PA.imp{X:Cx}{es:List Expr}{t t':TA}(h:PA X es t)(f:∀σ H Q,t' σ H Q→t σ H Q):PA X es t':=λpos pins s σ H Q I q=>h pos pins s σ H Q I (f _ _ _ q)
theorem OpR.imp{X:Cx}{f:Value→Value→Sem Value}{r r':R2}(h:OpR X f r)(g:∀x y H Q,r' x y H Q→r x y H Q):OpR X f r':=λpins s σ H x y v u Q I a b q=>h pins s σ H x y v u Q I a b (g _ _ _ _ q)
theorem dB.imp{X:Cx}{f:Value}{r r':List V→Hp→VK→Prop}(h:dB X f r)(g:∀xs H Q,r' xs H Q→r xs H Q):dB X f r':=λpins s σ H xs us Q I a q=>h pins s σ H xs us Q I a (g _ _ _ q)
def IV(i:Nat):aS:=λρ P=>∃d,ρ[i]? =some (some d)∧P d
def dC(d:D):aS:=λ_ P=>P d
section
variable {Z:DC} {X:Cx}
theorem aa(i:Nat){x:Str}{pos:Pos}(hN:X.N[i]? =some x:=by rfl)(hv:qM X.env.scope x:=by first|exact Or.inl rfl|exact Or.inr (Or.inl rfl) |exact Or.inr (Or.inr rfl))(hd:(x==("__debug__":Str))=false:=by decide)
  (fm:(x==("__classdict__":Str))=false:=by decide):DE Z X (.Name x pos) (IV i):=
 (Bx hN hv hd fm).imp λσ H Q ⟨G,ρ,P,s,e,⟨d,hd,p⟩,q⟩=>let ⟨v,hv,dv⟩:=e.at_ i d hd;⟨v,hv,q d p v G H (.refl s) dv⟩
theorem ar{i j pos}:DE Z X (.Constant (.int i) j pos) (dC (.int i)):=HB.imp λσ H Q ⟨G,ρ,P,s,e,p,q⟩=>q _ p _ G H (.refl s) (.int i)
theorem pJ{b j pos}:DE Z X (.Constant (.bool b) j pos) (dC (.bl b)):=LF.imp λσ H Q ⟨G,ρ,P,s,e,p,q⟩=>q _ p _ G H (.refl s) (.bl b)
theorem cJ{j pos}:DE Z X (.Constant .none j pos) (dC .aZ):=HC.imp λσ H Q ⟨G,ρ,P,s,e,p,q⟩=>q _ p _ G H (.refl s) .aZ
theorem nO{x j pos}(h:PyData.strOk x=true:=by decide+kernel):DE Z X (.Constant (.str x) j pos) (dC (.str x)):=HF.imp λσ H Q ⟨G,ρ,P,s,e,p,q⟩=>q _ p _ G H (.refl s) (.str x h)
theorem B2{x:Str}{i:Int}{pos:Pos}(hg:Gl X x)(hm:∃tk,X.mg x=some (.int i tk))(hd:(x==("__debug__":Str))=false:=by decide):DE Z X (.Name x pos) (dC (.int i)):=by
 obtain ⟨tk,hm⟩:=hm;exact (Fb hg hm (v:= .int i) ⟨tk,rfl⟩ hd).imp λσ H Q ⟨G,ρ,P,s,e,p,q⟩=>q _ p _ G H (.refl s) (.int i)
def BY(r:fg)(ta tb:aS):aS:=λρ P=>ta ρ λa=>tb ρ λb=>r a b P
variable {a b c:Expr} {ta tb tc:aS} {pos:Pos}
theorem wK{r:fg}:∀σ H Q,cO Z (BY r ta tb) σ H Q→F5 (bK Z r) (cO Z ta) (cO Z tb) σ H Q:=by
 rintro σ H Q ⟨G,ρ,P,s,e,h,q⟩;refine ⟨G,ρ,_,s,e,h,λa ha v G1 H1 x1 dv=>?_⟩;refine ⟨G1,ρ,_,x1.sub,e.mono x1.gg,ha,λb hb u G2 H2 x2 du=>?_⟩;exact ⟨G2,a,b,P,x2.sub,dv.mono x2.gg,du,hb,λd hd v' G' H' x3 wk=>q d hd v' G' H' ((x1.trans x2).trans x3) wk⟩
theorem aB{op:Operator}{r:fg}(ho:OpR X (binaryOp op) (bK Z r))(ha:DE Z X a ta)(hb:DE Z X b tb):DE Z X (.BinOp a op b pos) (BY r ta tb):=(As ho ha hb).imp wK
theorem jx{op:CmpOp}{r:fg}(ho:OpR X (compareOp op) (bK Z r))(ha:DE Z X a ta)(hb:DE Z X b tb)(hm:behindInMarks op b=false):DE Z X (.Compare a [op] [b] pos) (BY r ta tb):=(E9 ho ha hb hm).imp wK
def we(t:aS):cN:=λρ P=>t ρ λd=>∃k,d= .bl k∧P k
theorem vf{t:aS}:∀σ H Q,liftT Z (we t) σ H Q→AN (cO Z t) σ H Q:=by
 rintro σ H Q ⟨G,ρ,P,s,e,h,q⟩;refine ⟨G,ρ,_,s,e,h,?_⟩;rintro _ ⟨k,rfl,p⟩ v G1 H1 x1 dv;cases dv;exact ⟨k,rfl,q k p G1 H1 x1⟩
theorem bg{op:CmpOp}{r:fg}(ho:OpR X (compareOp op) (bK Z r))(ha:DE Z X a ta)(hb:DE Z X b tb)(hm:behindInMarks op b=false):DT Z X (.Compare a [op] [b] pos) (we (BY r ta tb)):=
 (Fq ho ha hb hm).imp λσ H Q h=>by
  obtain h:=vf σ H Q h;exact wK σ H _ h
def wc(r r':fg)(ta tb tc:aS):aS:=λρ P=>ta ρ λx=>tb ρ λy=>r x y λz=>∃k,z= .bl k∧(if k=true then tc ρ λw'=>r' y w' P else P (.bl false))
theorem sT{r r':fg}:∀σ H Q,cO Z (wc r r' ta tb tc) σ H Q→xj (bK Z r) (bK Z r') (cO Z ta) (cO Z tb) (cO Z tc) σ H Q:=by
 rintro σ H Q ⟨G,ρ,P,s,e,h,q⟩;refine ⟨G,ρ,_,s,e,h,λa ha v G1 H1 x1 dv=>?_⟩;refine ⟨G1,ρ,_,x1.sub,e.mono x1.gg,ha,λb hb u G2 H2 x2 du=>?_⟩;refine ⟨G2,a,b,_,x2.sub,dv.mono x2.gg,du,hb,?_⟩;rintro _ ⟨k,rfl,hk⟩ v' G3 H3 x3 wk;cases wk;refine ⟨k,rfl,?_⟩;have x:=(x1.trans x2).trans x3;cases k with
 |false=>exact cy (q _ hk _ G3 H3 x (.bl false))
 |true=>
  refine cD ⟨G3,ρ,_,x3.sub,e.mono x.gg,hk,λc hc w' G4 H4 x4 dw=>?_⟩;exact ⟨G4,b,c,P,x4.sub,(du.mono x3.gg).mono x4.gg,dw,hc,λd hd Xv G' H' x5 d5=>q d hd Xv G' H' ((x.trans x4).trans x5) d5⟩
theorem BZ{op m7:CmpOp}{r r':fg}(ho:OpR X (compareOp op) (bK Z r))(g6:OpR X (compareOp m7) (bK Z r'))(ha:DE Z X a ta)(hb:DE Z X b tb)(hc:DE Z X c tc)
  (hm:lastMarks [op,m7] [b,c]=false:=by with_unfolding_all rfl):DE Z X (.Compare a [op,m7] [b,c] pos) (wc r r' ta tb tc):=(CF ho g6 ha hb hc hm).imp sT
theorem B5{op m7:CmpOp}{r r':fg}(ho:OpR X (compareOp op) (bK Z r))(g6:OpR X (compareOp m7) (bK Z r'))(ha:DE Z X a ta)(hb:DE Z X b tb)(hc:DE Z X c tc)
  (hm:lastMarks [op,m7] [b,c]=false:=by with_unfolding_all rfl):DT Z X (.Compare a [op,m7] [b,c] pos) (we (wc r r' ta tb tc)):=
 (CL ho g6 ha hb hc hm).imp λσ H Q h=>by
  obtain h:=vf σ H Q h;exact sT σ H _ h
def vE:D→Bool
 | .aZ=>false
 | .bl b=>b
 | .int i=>i !=0
 | .str x=>x.length !=0
 | .lst l=>!l.isEmpty
 | .tup l=>!l.isEmpty
 | .jq l=>!l.isEmpty
 | .rng lo hi=>decide (lo<hi)
 | .obj _=>true
 | .dN _=>true
 | .set _ l=>!l.isEmpty
 | .x _=>true
def OY:D→Bool
 | .bl _=>true
 | .int _=>true
 | .lst _=>true
 | .tup _=>true
 | .aZ=>true
 |_=>false
def ND(t:aS):cN:=λρ P=>t ρ λd=>OY d=true∧P (vE d)
theorem qu{G:Hp}{vs:List V}{ds:List D}(h:aq Z G vs ds):vs.isEmpty=ds.isEmpty:=by cases h<;>rfl
theorem iu(ha:DE Z X a ta)(he:∀whole,isTrue a X.env whole=(do let v ←whole;standAt a.pos;holding [v] (truthy v)):=by intro _;rfl):DT Z X a (ND ta):=by
 refine (CM ha he).imp ?_;rintro σ H Q ⟨G,ρ,P,s,e,h,q⟩;refine ⟨G,ρ,_,s,e,h,?_⟩;rintro d ⟨hd,p⟩ v G1 H1 x1 dv;refine ⟨vE d,?_,q _ p G1 H1 x1⟩;cases dv with
 |aZ=>rfl
 |bl b=>rfl
 |int i=>rfl
 |lst h a=>exact .inl ⟨_,cc.of (x1.sub _ _ h),by rw [qu a];rfl⟩
 |tup h a=>exact .inr (.inl ⟨_,fi.of (x1.sub _ _ h),by rw [qu a];rfl⟩)
 |_=>cases hd
def Nh(t u:cN):cN:=λρ P=>t ρ λc=>if c=true then u ρ P else P false
def SU(t u:cN):cN:=λρ P=>t ρ λc=>if c=true then P true else u ρ P
def Nw(t:cN):cN:=λρ P=>t ρ λc=>P (!c)
variable {tA xi:cN} {rest:List Expr}
def DW(Z:DC)(X:Cx)(e:Expr)(t:cN):Prop:=PW X e (liftT Z t)
theorem DW.dt{e:Expr}{t:cN}(h:DW Z X e t):DT Z X e t:=PW.pt h
theorem xX(ha:DT Z X a tA):DW Z X (.BoolOp .And [a] pos) tA:=Fv ha
theorem rB(ha:DT Z X a tA):DW Z X (.BoolOp .Or [a] pos) tA:=HJ ha
theorem Bc(ha:DT Z X a tA)(hb:DW Z X (.BoolOp .And (b::rest) pos) xi):DW Z X (.BoolOp .And (a::b::rest) pos) (Nh tA xi):=by
 refine (HI ha hb).imp ?_;rintro σ H Q ⟨G,ρ,P,s,e,h,q⟩;refine ⟨G,ρ,_,s,e,h,λc hc G1 H1 x1=>?_⟩;cases c with
 |true=>exact cD ⟨G1,ρ,P,x1.sub,e.mono x1.gg,hc,λb hb G2 H2 x2=>q b hb G2 H2 (x1.trans x2)⟩
 |false=>exact cy (q _ hc G1 H1 x1)
theorem sC(ha:DT Z X a tA)(hb:DW Z X (.BoolOp .Or (b::rest) pos) xi):DW Z X (.BoolOp .Or (a::b::rest) pos) (SU tA xi):=by
 refine (LL ha hb).imp ?_;rintro σ H Q ⟨G,ρ,P,s,e,h,q⟩;refine ⟨G,ρ,_,s,e,h,λc hc G1 H1 x1=>?_⟩;cases c with
 |false=>exact cy ⟨G1,ρ,P,x1.sub,e.mono x1.gg,hc,λb hb G2 H2 x2=>q b hb G2 H2 (x1.trans x2)⟩
 |true=>exact cD (q _ hc G1 H1 x1)
theorem lH(ha:DT Z X a tA):DT Z X (.UnaryOp .Not a pos) (Nw tA):=by
 refine (HH ha).imp ?_;rintro σ H Q ⟨G,ρ,P,s,e,h,q⟩;exact ⟨G,ρ,_,s,e,h,λc hc G1 H1 x1=>q _ hc G1 H1 x1⟩
def J0(ta tb:aS):aS:=λρ P=>ta ρ λx=>∃c,x= .bl c∧if c=true then tb ρ P else P (.bl false)
def Nx(ta tb:aS):aS:=λρ P=>ta ρ λx=>∃c,x= .bl c∧if c=true then P (.bl true) else tb ρ P
def J7(ta:aS):aS:=λρ P=>ta ρ λx=>∃c,x= .bl c∧P (.bl (!c))
theorem rh{op}(h:DE Z X a ta):DE Z X (.BoolOp op [a] pos) ta:=HE h
theorem lD(ha:DE Z X a ta)(hb:DE Z X (.BoolOp .And (b::rest) pos) tb):DE Z X (.BoolOp .And (a::b::rest) pos) (J0 ta tb):=by
 refine (Hx ha hb).imp ?_;rintro σ H Q ⟨G,ρ,P,s,e,h,q⟩;refine ⟨G,ρ,_,s,e,h,?_⟩;rintro _ ⟨c,rfl,hc⟩ v G1 H1 x1 dv;cases dv;refine ⟨c,rfl,?_⟩;cases c with
 |true=>exact cD ⟨G1,ρ,P,x1.sub,e.mono x1.gg,hc,λb hb v G2 H2 x2 d2=>q b hb v G2 H2 (x1.trans x2) d2⟩
 |false=>exact cy (q _ hc _ G1 H1 x1 (.bl false))
theorem Ke(ha:DE Z X a ta)(hb:DE Z X (.BoolOp .Or (b::rest) pos) tb):DE Z X (.BoolOp .Or (a::b::rest) pos) (Nx ta tb):=by
 refine (LH ha hb).imp ?_;rintro σ H Q ⟨G,ρ,P,s,e,h,q⟩;refine ⟨G,ρ,_,s,e,h,?_⟩;rintro _ ⟨c,rfl,hc⟩ v G1 H1 x1 dv;cases dv;refine ⟨c,rfl,?_⟩;cases c with
 |false=>exact cy ⟨G1,ρ,P,x1.sub,e.mono x1.gg,hc,λb hb v G2 H2 x2 d2=>q b hb v G2 H2 (x1.trans x2) d2⟩
 |true=>exact cD (q _ hc _ G1 H1 x1 (.bl true))
theorem Gy(ha:DE Z X a ta):DE Z X (.UnaryOp .Not a pos) (J7 ta):=by
 refine (HD ha).imp ?_;rintro σ H Q ⟨G,ρ,P,s,e,h,q⟩;refine ⟨G,ρ,_,s,e,h,?_⟩;rintro _ ⟨c,rfl,hc⟩ v G1 H1 x1 dv;cases dv;exact ⟨c,rfl,q _ hc _ G1 H1 x1 (.bl _)⟩
def nM:gW:=λ_ P=>P []
def J2(ta:aS)(t:gW):gW:=λρ P=>ta ρ λx=>t ρ λxs=>P (x::xs)
variable {es:List Expr} {t:gW} {e:Expr}
theorem ag:DA Z X [] nM:=gL.imp λσ H Q ⟨G,ρ,P,s,e,p,q⟩=>q _ p _ G H (.refl s) .nil
theorem ab(ha:DE Z X e ta)(hr:DA Z X es t)(hs:starEach (e::es) X.env=(false,eval e X.env)::starEach es X.env:=by rfl):DA Z X (e::es) (J2 ta t):=by
 refine (dj ha hr hs).imp ?_;rintro σ H Q ⟨G,ρ,P,s,e,h,q⟩;refine ⟨G,ρ,_,s,e,h,λa ha v G1 H1 x1 dv=>?_⟩;exact ⟨G1,ρ,_,x1.sub,e.mono x1.gg,ha,λds hd vs G2 H2 x2 bf=>q _ hd _ G2 H2 (x1.trans x2) (.cons (dv.mono x2.gg) bf)⟩
def NF(t:gW):aS:=λρ P=>t ρ λxs=>xs.length≤sizeLine∧P (.tup xs)
def Nt(t:gW):aS:=λρ P=>t ρ λxs=>xs.length≤sizeLine∧P (.lst xs)
theorem ee{x1}(h:DA Z X es t):DE Z X (.Tuple es x1 pos) (NF t):=by
 refine (Bw h).imp ?_;rintro σ H Q ⟨G,ρ,P,s,e,h,q⟩;refine ⟨G,ρ,_,s,e,h,?_⟩;rintro ds ⟨hl,hp⟩ vs G1 H1 x1 bf;exact ⟨by rw [bf.length];exact hl,λp iL=>q _ hp _ _ _ (x1.trans (.new x1.sub iL)) (.tup aw (bf.mono (aQ (x1.sub.free iL) _)))⟩
theorem cn(h:DA Z X es t):DE Z X (.List es pos) (Nt t):=by
 refine (Bv h).imp ?_;rintro σ H Q ⟨G,ρ,P,s,e,h,q⟩;refine ⟨G,ρ,_,s,e,h,?_⟩;rintro ds ⟨hl,hp⟩ vs G1 H1 x1 bf;exact ⟨by rw [bf.length];exact hl,λp iL=>q _ hp _ _ _ (x1.trans (.new x1.sub iL)) (.lst aw (bf.mono (aQ (x1.sub.free iL) _)))⟩
def sg(r:List D→(D→Prop)→Prop)(t:gW):aS:=λρ P=>t ρ λds=>r ds P
theorem pT{r:List D→(D→Prop)→Prop}:∀σ H Q,cO Z (sg r t) σ H Q→z8 Z t σ H λvs H1=>jD Z r vs H1 Q:=by
 rintro σ H Q ⟨G,ρ,P,s,e,h,q⟩;exact ⟨G,ρ,_,s,e,h,λds hd vs G1 H1 x1 bf=>⟨G1,ds,P,x1.sub,bf,hd,λd hp v G2 H2 x2 dv=>q d hp v G2 H2 (x1.trans x2) dv⟩⟩
theorem DR{sd:cZ}{k:Nat}{f:Addr}{fd:FuncData}{ps:List Str}{x:Str}{p:Pos}(F:FnOk X.prog X.w X.K X.mg X.base cE k f fd ps (aV Z sd))(hr:cv k X.A)(hg:Gl X x)(hm:X.mg x=some (.ref f))(hk:PySem.W.keepIn X.K (.ref f)=true)(hb:Binds X.K fd ps [])
  (ha:DA Z X (e::es) t) (kC:(x==("__debug__":Str))=false:=by decide) (he:starEach (e::es) X.env=(false,eval e X.env)::starEach es X.env:=by rfl) (fD:(backTo pos (starEach es X.env)).any (·.1)=false:=by rfl):
  DE Z X (.Call (.Name x p) (e::es) [] pos) (sg sd t):=
 (E8 F hr hg hm hk hb .nil wW ha kC he fD).imp λσ H Q h=>by
  have h:=pT σ H Q h;obtain ⟨G,ρ,P,s,e,h,q⟩:=h;exact ⟨G,ρ,P,s,e,h,λds hd vs G1 H1 x1 bf=>by show aV Z sd (vs++ []) H1 Q E0;rw [j5];exact q ds hd vs G1 H1 x1 bf⟩
theorem ax{id:String}{x:Str}{p:Pos}{r:List D→(D→Prop)→Prop}(hc:dB X (.builtin id) (jD Z r))(hg:Gl X x)(hm:X.mg x=none)(hv:bootBuiltins x=some (.builtin id))(ha:DA Z X (e::es) t)(hn:x≠"__name__":=by decide)(kC:(x==("__debug__":Str))=false:=by decide)
  (he:starEach (e::es) X.env=(false,eval e X.env)::starEach es X.env:=by rfl) (fD:(backTo pos (starEach es X.env)).any (·.1)=false:=by rfl):
  DE Z X (.Call (.Name x p) (e::es) [] pos) (sg r t):=(vq hc hg hm hv ha hn kC he fD).imp pT
theorem jw{T:String}{x:Str}{p:Pos}{r:List D→(D→Prop)→Prop}(hc:dB X (.type T) (jD Z r))(hg:Gl X x)(hm:X.mg x=none)(hv:bootBuiltins x=some (.type T))(ha:DA Z X (e::es) t)(hn:x≠"__name__":=by decide)(kC:(x==("__debug__":Str))=false:=by decide)
  (he:starEach (e::es) X.env=(false,eval e X.env)::starEach es X.env:=by rfl) (fD:(backTo pos (starEach es X.env)).any (·.1)=false:=by rfl):
  DE Z X (.Call (.Name x p) (e::es) [] pos) (sg r t):=(Ar hc hg hm hv ha hn kC he fD).imp pT
end
end L2
namespace L2
open PySem PySem.Spec PyProof.Rows
section
variable {Z:DC} {X:Cx}
def IL:fg:=λx y P=>match x,y with
 | .int i, .int j=>P (.int (i+j))
 | .lst a, .lst b=>a.length+b.length≤sizeLine∧P (.lst (a++b))
 | .tup a, .tup b=>a≠ []∧a.length+b.length≤sizeLine∧b≠ []∧P (.tup (a++b))
 |_,_=>False
def dI(c:Int→Int→Prop)(g:Int→Int→Int):fg:=λx y P=>match x,y with
 | .int i, .int j=>c i j∧P (.int (g i j))
 |_,_=>False
def J3(g:Int→Int→Int):fg:=λx y P=>match x,y with
 | .int i, .int j=>P (.int (g i j))
 |_,_=>False
def NB:fg:=J3 λi j=>i-j
def IU:fg:=λx y P=>match x,y with
 | .int i, .int j=>AX i j∧P (.int (i*j))
 | .lst a, .int k=> -(2^63)≤k∧k<2^63∧a.length*k.toNat≤sizeLine∧P (.lst (List.replicate k.toNat a).flatten)
 |_,_=>False
def Nk:fg:=dI Ik λi j=>i / j
def Nu:fg:=dI (λ_ j=>0<j) λi j=>i%j
def Nz:fg:=dI Im λi j=>i^j.toNat
theorem wL{f:Value→Value→Sem Value}{c:Int→Int→Prop}{g:Int→Int→Int}(h:OpR X f (rI c λi j=> .int (g i j))):OpR X f (bK Z (dI c g)):=by
 refine h.imp ?_;rintro x y H Q ⟨G,a,b,P,s,da,db,hr,q⟩;unfold dI at hr
 split at hr
 ·exact ⟨_,_,da.ofInt,db.ofInt,hr.1,q _ hr.2 _ G H (.refl s) (.int _)⟩
 ·exact hr.elim
theorem Hc{f:Value→Value→Sem Value}{g:Int→Int→Int}(h:OpR X f (w4 λi j=> .int (g i j))):OpR X f (bK Z (J3 g)):=by
 refine h.imp ?_;rintro x y H Q ⟨G,a,b,P,s,da,db,hr,q⟩;unfold J3 at hr
 split at hr
 ·exact ⟨_,_,da.ofInt,db.ofInt,q _ hr _ G H (.refl s) (.int _)⟩
 ·exact hr.elim
theorem gK:OpR X (binaryOp .Sub) (bK Z NB):=Hc Hw
theorem fu:OpR X (binaryOp .FloorDiv) (bK Z Nk):=wL E5
theorem cA:OpR X (binaryOp .Mod) (bK Z Nu):=wL Hr
theorem Br:OpR X (binaryOp .Pow) (bK Z Nz):=wL Hu
theorem bJ(e:X.K=Z.K:=by rfl):OpR X (binaryOp .Add) (bK Z IL):=by
 refine (Hn.or (wV.or (E4))).imp ?_;rintro x y H Q ⟨G,a,b,P,s,da,db,hr,q⟩;unfold IL at hr
 split at hr
 ·exact .inl ⟨_,_,da.ofInt,db.ofInt,q _ hr _ G H (.refl s) (.int _)⟩
 ·obtain ⟨a1,Gd,rfl,h1,e1⟩:=da.hJ
  obtain ⟨a2,Rw,rfl,h2,e2⟩:=db.hJ;obtain ⟨hz,hp⟩:=hr;refine .inr (.inl ⟨_,_,_,_,rfl,rfl,s _ _ h1,s _ _ h2,by rw [e1.length,e2.length];exact hz,λp hn=>?_⟩)
  exact q _ hp _ _ _ (.new s hn) (.lst aw ((e1.append e2).mono (aQ (s.free hn) _)))
 ·obtain ⟨a1,Gd,rfl,h1,e1⟩:=da.tq
  obtain ⟨a2,Rw,rfl,h2,e2⟩:=db.tq;obtain ⟨h0,hz,Tu,hp⟩:=hr;refine .inr (.inr ⟨_,_,_,_,rfl,rfl,fi.of (s _ _ h1),fi.of (s _ _ h2),?_,by rw [e1.length,e2.length];exact hz,?_⟩)
  ·rintro rfl;cases e1;exact h0 rfl
  ·refine ⟨?_,λ_ p hn=>q _ hp _ _ _ (.new s hn) (.tup aw ((e1.append e2).mono (aQ (s.free hn) _)))⟩
   rintro rfl;cases e2;exact (Tu rfl).elim
 ·exact hr.elim
theorem aq.rep{G:Hp}{vs:List V}{ds:List D}(h:aq Z G vs ds):∀k:Nat,aq Z G (List.replicate k vs).flatten (List.replicate k ds).flatten
 |0=> .nil
 |k+1=>by rw [ud,ud,vM,vM];exact h.append (aq.rep h k)
theorem rF:OpR X (binaryOp .Mult) (bK Z IU):=by
 refine (Hs.or Hv).imp ?_;rintro x y H Q ⟨G,a,b,P,s,da,db,hr,q⟩;unfold IU at hr
 split at hr
 ·exact .inl ⟨_,_,da.ofInt,db.ofInt,hr.1,q _ hr.2 _ G H (.refl s) (.int _)⟩
 ·obtain ⟨a1,Gd,rfl,h1,e1⟩:=da.hJ
  obtain ⟨h0,h9,hz,hp⟩:=hr;refine .inr ⟨_,_,_,rfl,db.ofInt,s _ _ h1,h0,h9,by rw [e1.length];exact hz,λp hn=>?_⟩
  exact q _ hp _ _ _ (.new s hn) (.lst aw ((e1.rep _).mono (aQ (s.free hn) _)))
 ·exact hr.elim
mutual
def D.py:D→Option PyData
 | .aZ=>some .none
 | .bl b=>some (.bool b)
 | .int i=>some (.int i)
 | .str x=>some (.str x)
 | .lst l=>(e6 l).map PyData.list
 | .tup l=>(e6 l).map PyData.tuple
 | .jq _=>none
 | .rng _ _=>none
 | .obj _=>none
 | .dN _=>none
 | .set _ _=>none
 | .x _=>none
def e6:List D→Option (List PyData)
 | []=>some []
 |d::ds=>(D.py d).bind λa=>(e6 ds).map λas=>a::as
end
mutual
theorem Dv.dp{K:PySem.W.Frag}{G:Hp}:∀{v:V}{d:D}{e:PyData},Dv Z G v d→d.py=some e→Dp K G v e
 |_,_,_, .aZ,h=>by simp [D.py] at h;subst h;exact .aZ
 |_,_,_, .bl b,h=>by simp [D.py] at h;subst h;exact .bl b
 |_,_,_, .int i,h=>by simp [D.py] at h;subst h;exact .int i
 |_,_,_, .str x k,h=>by simp [D.py] at h;subst h;exact .str x k
 |_,_,_, .lst a as,h=>by
  simp [D.py] at h;obtain ⟨l,h1,rfl⟩:=h;exact .lst (cc.of a) (aq.dp as h1)
 |_,_,_, .tup a as,h=>by
  simp [D.py] at h;obtain ⟨l,h1,rfl⟩:=h;exact .tup (fi.of a) (aq.dp as h1)
 |_,_,_, .jq _ _,h=>by simp [D.py] at h
 |_,_,_, .rng _,h=>by simp [D.py] at h
 |_,_,_, .obj _,h=>by simp [D.py] at h
 |_,_,_, .dN _ _ _ _ _,h=>by simp [D.py] at h
 |_,_,_, .set _,h=>by simp [D.py] at h
 |_,_,_, .x _ _,h=>by simp [D.py] at h
theorem aq.dp{K:PySem.W.Frag}{G:Hp}:∀{vs:List V}{ds:List D}{es:List PyData},aq Z G vs ds→e6 ds=some es→dP K G vs es
 |_,_,_, .nil,h=>by simp [e6] at h;subst h;exact .nil
 |_,_,_, .cons (d:=d) (ds:=ds) a as,h=>by
  rw [e6] at h;cases h1:d.py with
  |none=>rw [h1] at h;cases h
  |some x=>
   rw [h1] at h;cases h2:e6 ds with
   |none=>rw [h2] at h;cases h
   |some y=>rw [h2] at h;cases h;exact .cons (Dv.dp a h1) (aq.dp as h2)
end
theorem fi.mono{K:PySem.W.Frag}{H H':Hp}{a:Addr}{xs:List V}(s:aG H H')(h:fi K H a xs):fi K H' a xs:=by
 rcases h with (h| ⟨o,h⟩) |h
 ·exact .inl (.inl (s _ _ h))
 ·exact .inl (.inr ⟨o,s _ _ h⟩)
 ·exact .inr h
mutual
theorem Dp.mono{K:PySem.W.Frag}{G H:Hp}(s:aG G H):∀{v:V}{d:PyData},Dp K G v d→Dp K H v d
 |_,_, .aZ=> .aZ
 |_,_, .bl b=> .bl b
 |_,_, .int i=> .int i
 |_,_, .str x h=> .str x h
 |_,_, .lst h a=> .lst (h.mono s) (dP.mono s a)
 |_,_, .tup h a=> .tup (h.mono s) (dP.mono s a)
theorem dP.mono{K:PySem.W.Frag}{G H:Hp}(s:aG G H):∀{vs:List V}{ds:List PyData},dP K G vs ds→dP K H vs ds
 |_,_, .nil=> .nil
 |_,_, .cons a as=> .cons (Dp.mono s a) (dP.mono s as)
end
def IM(neg:Bool):fg:=λx y P=>∃a b,x.py=some a∧y.py=some b∧a.depth≤64∧P (.bl (if neg then !PyData.eqv a b else PyData.eqv a b))
abbrev wd:fg:=IM false
abbrev J6:fg:=IM true
theorem iO(hu:X.A.units+64<cLine):OpR X (compareOp .Eq) (bK Z wd):=by
 refine (Ho hu).imp ?_;rintro x y H Q ⟨G,a,b,P,s,da,db,⟨c,d,h1,h2,h3,hp⟩,q⟩;exact ⟨c,d,(da.dp h1).mono s,(db.dp h2).mono s,h3,q _ hp _ G H (.refl s) (.bl _)⟩
theorem Ak(hu:X.A.units+64<cLine):OpR X (compareOp .NotEq) (bK Z J6):=by
 refine (Ht hu).imp ?_;rintro x y H Q ⟨G,a,b,P,s,da,db,⟨c,d,h1,h2,h3,hp⟩,q⟩;exact ⟨c,d,(da.dp h1).mono s,(db.dp h2).mono s,h3,q _ hp _ G H (.refl s) (.bl _)⟩
theorem sh{i j:Int}{P:D→Prop}(h:P (.bl (decide (i=j)))):wd (.int i) (.int j) P:=⟨.int i, .int j,rfl,rfl,by simp [PyData.depth],by
 have:PyData.eqv (.int i) (.int j)=decide (i=j):=by
  rw [PyData.eqv]
  by_cases z:i=j<;>simp [z]
 simpa [this] using h⟩
def xR(p:Int→Int→Bool):fg:=λx y P=>match x,y with
 | .int i, .int j=>P (.bl (p i j))
 |_,_=>False
theorem sU{f:Value→Value→Sem Value}{p:Int→Int→Bool}(h:OpR X f (w4 λi j=> .bl (p i j))):OpR X f (bK Z (xR p)):=by
 refine h.imp ?_;rintro x y H Q ⟨G,a,b,P,s,da,db,hr,q⟩;unfold xR at hr
 split at hr
 ·exact ⟨_,_,da.ofInt,db.ofInt,q _ hr _ G H (.refl s) (.bl _)⟩
 ·exact hr.elim
end
end L2
namespace L2
open PySem PySem.Spec PyProof.Rows
section
variable {Z:DC} {X:Cx}
abbrev SS:fg:=xR λi j=>decide (i<j)
abbrev SR:fg:=xR λi j=>decide (i≤j)
abbrev SQ:fg:=xR λi j=>decide (j<i)
theorem pV:OpR X (compareOp .Lt) (bK Z SS):=sU LA
theorem Aj:OpR X (compareOp .LtE) (bK Z SR):=sU Lz
theorem wN:OpR X (compareOp .Gt) (bK Z SQ):=sU Ly
def zY:D→Bool
 | .aZ=>true
 |_=>false
def DJ(neg:Bool):fg:=λx y P=>match y with
 | .aZ=>P (.bl (if neg then !zY x else zY x))
 |_=>False
theorem u7{G:Hp}{v:V}{d:D}(h:Dv Z G v d):decide (v= .aZ)=zY d:=by cases h<;>rfl
theorem m6:OpR X (compareOp .Is) (bK Z (DJ false)):=by
 refine Hq.imp ?_;rintro x y H Q ⟨G,a,b,P,s,da,db,hr,q⟩;cases db<;>first|exact hr.elim|skip
 exact ⟨rfl,by rw [u7 da];exact q _ hr _ G H (.refl s) (.bl _)⟩
theorem CA:OpR X (compareOp .IsNot) (bK Z (DJ true)):=by
 refine E6.imp ?_;rintro x y H Q ⟨G,a,b,P,s,da,db,hr,q⟩;cases db<;>first|exact hr.elim|skip
 exact ⟨rfl,by rw [u7 da];exact q _ hr _ G H (.refl s) (.bl _)⟩
def eO:D→Bool
 | .aZ=>true
 | .bl _=>true
 | .int _=>true
 | .str _=>true
 |_=>false
def iw:D→D→Bool
 | .aZ, .aZ=>true
 | .bl a, .bl b=>a==b
 | .bl a, .int b=>(if a then 1 else 0)==b
 | .int a, .bl b=>a==(if b then 1 else 0)
 | .int a, .int b=>a==b
 | .str a, .str b=>a==b
 |_,_=>false
def inD(x:D)(l:List D):Bool:=l.any λy=>iw y x
theorem nZ{G:Hp}{v:V}{d:D}(h:Dv Z G v d):fP v=eO d:=by cases h<;>rfl
theorem iy{G:Hp}:∀{vs:List V}{ds:List D},aq Z G vs ds→vs.all fP=ds.all eO
 |_,_, .nil=>rfl
 |_,_, .cons a as=>by rw [List.all_cons,List.all_cons,nZ a,iy as]
theorem wu{G:Hp}{v u:V}{d e:D}(h:Dv Z G v d)(k:Dv Z G u e):sE v u=iw d e:=by cases h<;>cases k<;>rfl
theorem zV{G:Hp}{v:V}{d:D}(h:Dv Z G v d):∀{vs:List V}{ds:List D},aq Z G vs ds→GQ v vs=inD d ds
 |_,_, .nil=>rfl
 |_,_, .cons a as=>by
  unfold GQ inD;rw [List.any_cons,List.any_cons,wu a h];exact congrArg _ (zV h as)
def Gu(neg:Bool):fg:=λx y P=>match y with
 | .lst l=>eO x=true∧l.all eO=true∧P (.bl (if neg then !inD x l else inD x l))
 | .tup l=>eO x=true∧l.all eO=true∧P (.bl (if neg then !inD x l else inD x l))
 |_=>False
theorem FA{neg:Bool}:∀x y H Q,bK Z (Gu neg) x y H Q→LR X.K neg x y H Q:=by
 rintro x y H Q ⟨G,a,b,P,s,da,db,hr,q⟩;cases db<;>first|exact hr.elim|skip
 ·rename_i p xs ds h e
  obtain ⟨h1,h2,hp⟩:=hr;refine ⟨p,xs,rfl, .inl (cc.of (s _ _ h)),by rw [nZ da];exact h1,by rw [iy e];exact h2,?_⟩
  rw [zV da e];exact q _ hp _ G H (.refl s) (.bl _)
 ·rename_i p xs ds h e
  obtain ⟨h1,h2,hp⟩:=hr;refine ⟨p,xs,rfl, .inr (fi.of (s _ _ h)),by rw [nZ da];exact h1,by rw [iy e];exact h2,?_⟩
  rw [zV da e];exact q _ hp _ G H (.refl s) (.bl _)
theorem wO:OpR X (compareOp .In) (bK Z (Gu false)):=Ao.imp FA
theorem pW:OpR X (compareOp .NotIn) (bK Z (Gu true)):=uD.imp FA
def Nr:fg:=λx y P=>match x,y with
 | .lst l, .int i=>∃d,fU l i=some d∧P d
 | .tup l, .int i=>∃d,fU l i=some d∧P d
 | .jq l, .int i=>∃n,fU l i=some n∧P (.int n)
 |_,_=>False
theorem A3{G:Hp}{vs:List V}{ds:List D}{i:Int}{d:D}(h:aq Z G vs ds)(e:fU ds i=some d):∃v,fU vs i=some v∧Dv Z G v d:=by
 unfold fU at e ⊢;rw [h.length];cases z:mU ds.length i with
 |none=>rw [z] at e;cases e
 |some j=>rw [z] at e;exact h.get e
theorem Dk{α β:Type}(f:α→β)(l:List α)(i:Int):fU (l.map f) i=(fU l i).map f:=by
 unfold fU;rw [aJ];cases mU l.length i with
 |none=>rfl
 |some j=>show (l.map f)[j]? =_;rw [eJ];rfl
variable {a b c e:Expr} {ta tb tc te:aS} {pos:Pos}
theorem bC(ha:DE Z X a ta)(hb:DE Z X b tb)(eK:X.K=Z.K:=by rfl)(hs:xC b:=by exact λ_ _=>rfl):DE Z X (.Subscript a b pos) (BY Nr ta tb):=by
 refine (LG (EE.or GS) ha hb hs).imp λσ H Q h=>?_;obtain ⟨G,ρ,P,s,e,h,q⟩:=wK σ H Q h;refine ⟨G,ρ,P,s,e,h,λd hd v G1 H1 x1 dv=>?_⟩;obtain ⟨G',aA,P',s',e',h',q'⟩:=q d hd v G1 H1 x1 dv;refine ⟨G',aA,P',s',e',h',λd2 hd2 v2 G2 H2 x2 wo=>?_⟩;obtain ⟨G,a,b,P,s,da,db,hr,q⟩:=q' d2 hd2 v2 G2 H2 x2 wo;unfold Nr at hr
 split at hr
 ·obtain ⟨d,h1,hp⟩:=hr
  obtain ⟨_,_,rfl,h,e⟩:=da.hJ;obtain ⟨v,hv,dv⟩:=A3 e h1;exact .inl ⟨_,_,_,v,rfl,db.ofInt,cc.of (s _ _ h),hv,q _ hp _ G _ (.refl s) dv⟩
 ·obtain ⟨d,h1,hp⟩:=hr
  obtain ⟨_,_,rfl,h,e⟩:=da.tq;obtain ⟨v,hv,dv⟩:=A3 e h1;exact .inr ⟨_,_,_,v,rfl,db.ofInt,fi.of (s _ _ h),hv,q _ hp _ G _ (.refl s) dv⟩
 rotate_left
 ·exact hr.elim
 ·obtain ⟨d,h1,hp⟩:=hr
  obtain ⟨_,rfl,h,_⟩:=da.EX;refine .inl ⟨_,_,_, .int d,rfl,db.ofInt,by rw [eK];exact h.mono s,by rw [Dk,h1];rfl,q _ hp _ G _ (.refl s) (.int d)⟩
def cutD{α:Type}(xs:List α)(lo hi:Option Int):List α:=(xs.drop (HT.bx xs.length 0 lo)).take (HT.bx xs.length xs.length hi-HT.bx xs.length 0 lo)
theorem wb{G:Hp}{vs:List V}{ds:List D}(h:aq Z G vs ds)(lo hi:Option Int):aq Z G (qq vs lo hi) (cutD ds lo hi):=by
 unfold qq cutD;rw [h.length];exact (h.drop _).take _
theorem uL{α β:Type}(f:α→β)(l:List α)(lo hi:Option Int):cutD (l.map f) lo hi=(cutD l lo hi).map f:=by
 unfold cutD;rw [aJ,lh,lj]
abbrev xu:=DN→(Option Int→Prop)→Prop
def DM:xu:=λ_ P=>P none
def J8(t:aS):xu:=λρ P=>t ρ λd=>match d with
 | .int i=>P (some i)
 |_=>False
def Lp(Z:DC)(t:xu):TO:=λσ H Q=>∃(G:Hp)(ρ:DN)(P:Option Int→Prop),aG G H∧cC Z G σ ρ∧t ρ P∧∀o,P o→∀G' H',Ext G H G' H'→Q o H'
def DO(Z:DC)(X:Cx)(e:Option Expr)(t:xu):Prop:=PO X e (Lp Z t)
theorem PO.imp{e:Option Expr}{t t':TO}(h:PO X e t)(f:∀σ H Q,t' σ H Q→t σ H Q):PO X e t':=λpins s σ H Q I q=>h pins s σ H Q I (f _ _ _ q)
theorem bX:DO Z X none DM:=Fn.imp λσ H Q ⟨G,ρ,P,s,e,p,q⟩=>q _ p G H (.refl s)
theorem bA(h:DE Z X e te):DO Z X (some e) (J8 te):=by
 refine (Fo h).imp ?_;rintro σ H Q ⟨G,ρ,P,s,e,h,q⟩;refine ⟨G,ρ,_,s,e,h,λd hd v G1 H1 x1 dv=>?_⟩;cases dv<;>first|exact hd.elim|skip
 exact ⟨_,rfl,q _ hd G1 H1 x1⟩
def SV(te:aS)(tl th:xu):aS:=λρ P=>te ρ λx=>tl ρ λlo=>th ρ λhi=>match x with
 | .lst l=>P (.lst (cutD l lo hi))
 | .tup l=>¬(HT.bx l.length 0 lo=0∧HT.bx l.length l.length hi=l.length)∧P (.tup (cutD l lo hi))
 | .jq l=>P (.lst ((cutD l lo hi).map D.int))
 |_=>False
variable {lo hi:Option Expr} {tl th:xu} {p2:Pos}
theorem bH(he:DE Z X e te)(hl:DO Z X lo tl)(hu:DO Z X hi th)(eK:X.K=Z.K:=by rfl):DE Z X (.Subscript e (.Slice lo hi none p2) pos) (SV te tl th):=by
 refine (vt (yQ.or HR) he hl hu).imp ?_;rintro σ H Q ⟨G,ρ,P,s,en,h,q⟩;refine ⟨G,ρ,_,s,en,h,λd hd v G1 H1 x1 dv=>?_⟩;refine ⟨G1,ρ,_,x1.sub,en.mono x1.gg,hd,λl hl G2 H2 x2=>?_⟩;refine ⟨G2,ρ,_,x2.sub,(en.mono x1.gg).mono x2.gg,hl,λu hu G3 H3 x3=>?_⟩;have x:=(x1.trans x2).trans x3;have dv:=(dv.mono x2.gg).mono x3.gg;cases dv<;>first|exact hu.elim|skip
 ·rename_i h e
  exact .inl ⟨_,_,rfl,cc.of (x3.sub _ _ h),λp hn=>q _ hu _ _ _ (x.trans (.new x3.sub hn)) (.lst aw ((wb e l u).mono (aQ (x3.sub.free hn) _)))⟩
 ·rename_i h e
  refine .inr ⟨_,_,rfl,fi.of (x3.sub _ _ h),by rw [e.length];exact hu.1,λp hn=>q _ hu.2 _ _ _ (x.trans (.new x3.sub hn)) (.tup aw ((wb e l u).mono (aQ (x3.sub.free hn) _)))⟩
 ·rename_i h _
  refine .inl ⟨_,_,rfl,by rw [eK];exact h.mono x3.sub,λp hn=>q _ hu _ _ _ (x.trans (.new x3.sub hn)) (.lst aw ?_)⟩
  show aq Z _ (cutD _ l u) _;rw [uL];exact .ints _
def xH:cZ:=λds P=>match ds with
 | [.lst l]=>P (.int l.length)
 | [.tup l]=>P (.int l.length)
 | [.jq l]=>P (.int l.length)
 |_=>False
theorem aO(eK:X.K=Z.K:=by rfl):dB X (.builtin "len") (jD Z xH):=by
 refine uq.imp ?_;rintro xs H Q ⟨G,ds,P,s,dv,hr,q⟩;unfold xH at hr
 split at hr
 ·obtain ⟨_,rfl,a⟩:=dv.ofOne
  obtain ⟨_,_,rfl,h,e⟩:=a.hJ;exact ⟨_,_,rfl, .inl (cc.of (s _ _ h)),by rw [e.length];exact q _ hr _ G H (.refl s) (.int _)⟩
 ·obtain ⟨_,rfl,a⟩:=dv.ofOne
  obtain ⟨_,_,rfl,h,e⟩:=a.tq;exact ⟨_,_,rfl, .inr (fi.of (s _ _ h)),by rw [e.length];exact q _ hr _ G H (.refl s) (.int _)⟩
 ·obtain ⟨_,rfl,a⟩:=dv.ofOne
  obtain ⟨_,rfl,h,_⟩:=a.EX;exact ⟨_,_,rfl, .inl (by rw [eK];exact h.mono s),by rw [aJ];exact q _ hr _ G H (.refl s) (.int _)⟩
 ·exact hr.elim
def Dm:cZ:=λds P=>match ds with
 | [.lst l]=>P (.lst l)
 | [.tup l]=>P (.lst l)
 |_=>False
theorem nG:dB X (.type "list") (jD Z Dm):=by
 refine ur.imp ?_;rintro xs H Q ⟨G,ds,P,s,dv,hr,q⟩;unfold Dm at hr
 split at hr
 ·obtain ⟨_,rfl,a⟩:=dv.ofOne
  obtain ⟨_,_,rfl,h,e⟩:=a.hJ;exact ⟨_,_,rfl, .inl (cc.of (s _ _ h)),λp hn=>q _ hr _ _ _ (.new s hn) (.lst aw (e.mono (aQ (s.free hn) _)))⟩
 ·obtain ⟨_,rfl,a⟩:=dv.ofOne
  obtain ⟨_,_,rfl,h,e⟩:=a.tq;exact ⟨_,_,rfl, .inr (fi.of (s _ _ h)),λp hn=>q _ hr _ _ _ (.new s hn) (.lst aw (e.mono (aQ (s.free hn) _)))⟩
 ·exact hr.elim
def XB:cZ:=λds P=>match ds with
 | [.int i]=>P (.int i)
 | [.bl b]=>P (.int (if b then 1 else 0))
 |_=>False
def OX:String→D→Bool
 |"int", .int _=>true
 |"int", .bl _=>true
 |"bool", .bl _=>true
 |"list", .lst _=>true
 |"tuple", .tup _=>true
 |_,_=>false
def Lx(n:String):Bool:=n=="int"||n=="bool"||n=="list"||n=="tuple"
def Jk:D→Bool
 | .aZ=>true
 | .bl _=>true
 | .int _=>true
 | .str _=>true
 | .lst _=>true
 | .tup _=>true
 |_=>false
def Nq(n:String)(t:aS):aS:=λρ P=>t ρ λd=>Jk d=true∧P (.bl (OX n d))
theorem GZ{K:PySem.W.Frag}{H:Hp}{v:V}{d:D}{n:String}(hn:Lx n=true)(hd:Jk d=true)(h:Dv Z H v d):∃t,iq K H v t∧PySem.W.kitOne K t (.type n)=some (OX n d):=by
 unfold Lx at hn;rw [Bool.or_eq_true,Bool.or_eq_true,Bool.or_eq_true,beq_iff_eq,beq_iff_eq,beq_iff_eq,beq_iff_eq] at hn;cases h with
 |aZ=>refine ⟨_, .aZ,?_⟩;rcases hn with ((rfl|rfl) |rfl) |rfl<;>kernel_rfl
 |bl b=>refine ⟨_, .bl b,?_⟩;rcases hn with ((rfl|rfl) |rfl) |rfl<;>kernel_rfl
 |int b=>refine ⟨_, .int b,?_⟩;rcases hn with ((rfl|rfl) |rfl) |rfl<;>kernel_rfl
 |str b=>refine ⟨_, .str b,?_⟩;rcases hn with ((rfl|rfl) |rfl) |rfl<;>kernel_rfl
 |lst h a=>refine ⟨_, .lst h,?_⟩;rcases hn with ((rfl|rfl) |rfl) |rfl<;>kernel_rfl
 |tup h a=>refine ⟨_, .tup h,?_⟩;rcases hn with ((rfl|rfl) |rfl) |rfl<;>kernel_rfl
 |_=>cases hd
end
section
variable {Z:DC} {X:Cx} {a b c e:Expr} {ta tb tc te:aS} {pos:Pos}
theorem A6(n:String){x:Str}{p p':Pos}(ha:DE Z X a ta)(hg:Gl X "isinstance")(hm:X.mg "isinstance"=none)(T4:Gl X x)(yf:X.mg x=none)(hv:bootBuiltins x=some (.type n))(ok:Lx n=true:=by decide)
  (hn:x≠"__name__":=by decide) (hd:(x==("__debug__":Str))=false:=by decide) (hs:starEach [a, .Name x p'] X.env=(false,eval a X.env)::starEach [.Name x p'] X.env:=by rfl)
  (fD:(backTo pos (starEach [.Name x p'] X.env)).any (·.1)=false:=by rfl) (jA:starEach [.Name x p'] X.env=(false,eval (.Name x p') X.env)::starEach [] X.env:=by rfl):
  DE Z X (.Call (.Name "isinstance" p) [a, .Name x p'] [] pos) (Nq n ta):=by
 have hb:PE X (.Name x p') (tC (.ty n)):=E7 T4 yf hv rfl hn hd;refine (vq vZ hg hm (by decide+kernel) (dj ha (dj hb gL jA) hs) (by decide) (by decide) hs fD).imp ?_
 rintro σ H Q ⟨G,ρ,P,s,e,h,q⟩;refine ⟨G,ρ,_,s,e,h,?_⟩;rintro d ⟨hk,hp⟩ v G1 H1 x1 dv;obtain ⟨t,ht,lU⟩:=GZ (K:=X.K) (H:=H1) ok hk (dv.mono x1.sub);exact ⟨v,n,t,_,rfl,ht,lU,q _ hp _ G1 H1 x1 (.bl _)⟩
def kH(Z:DC)(g:cU):TG:=λv σ H Q=>∃(G:Hp)(ρ:DN)(d:D)(P:DN→Prop),aG G H∧cC Z G σ ρ∧Dv Z G v d∧g d ρ P∧∀aA,P aA→∀av,cC Z G av aA→Q av H
def DG(Z:DC)(X:Cx)(e:Expr)(g:cU):Prop:=PG X e (kH Z g)
theorem PG.imp{e:Expr}{t t':TG}(h:PG X e t)(f:∀v σ H Q,t' v σ H Q→t v σ H Q):PG X e t':=λpins s σ H v u Q I r q=>h pins s σ H v u Q I r (f _ _ _ _ q)
def rq(i:Nat):cU:=λd ρ P=>P (ρ.set i (some d))
theorem cw(i:Nat){x:Str}(hN:X.N.Nodup)(hi:X.N[i]? =some x:=by rfl)(hx:Loc X.env.scope x:=by exact Or.inl rfl)(hf:X.fn x=true∨X.env.scope.names.lookup x=some .local:=by first|exact .inl rfl|exact .inr rfl|assumption):DG Z X (.Name x pos) (rq i):=
 (yF hN hi hx hf).imp λv σ H Q ⟨G,ρ,d,P,s,e,dv,h,q⟩=>q _ h _ (e.set dv)
abbrev jS:=List D→DN→(DN→Prop)→Prop
def Hb(Z:DC)(g:jS):uo:=λvs σ H Q=>∃(G:Hp)(ρ:DN)(ds:List D)(P:DN→Prop),aG G H∧cC Z G σ ρ∧aq Z G vs ds∧g ds ρ P∧∀aA,P aA→∀av,cC Z G av aA→Q av H
def Gi(Z:DC)(X:Cx)(es:List Expr)(g:jS):Prop:=vU X es (Hb Z g)
theorem vU.imp{es:List Expr}{t t':uo}(h:vU X es t)(f:∀v σ H Q,t' v σ H Q→t v σ H Q):vU X es t':=λpins s σ H v u Q I r q=>h pins s σ H v u Q I r (f _ _ _ _ q)
def DX:jS:=λds ρ P=>ds= []∧P ρ
def A8(g:cU)(gs:jS):jS:=λds ρ P=>match ds with
 |d::r=>g d ρ λaA=>gs r aA P
 | []=>False
theorem DZ:Gi Z X [] DX:=yG.imp λv σ H Q ⟨G,ρ,ds,P,s,e,dv,⟨h,p⟩,q⟩=>by
 subst h;cases dv;exact ⟨rfl,q _ p _ e⟩
theorem uP{es:List Expr}{g:cU}{gs:jS}(h1:DG Z X e g)(h2:Gi Z X es gs)(hs:(assignEach (e::es) X.env).map (·.2)=assign e X.env::(assignEach es X.env).map (·.2):=by rfl):Gi Z X (e::es) (A8 g gs):=by
 refine (vv h1 h2 hs).imp ?_;rintro v σ H Q ⟨G,ρ,ds,P,s,e,dv,h,q⟩;cases dv with
 |nil=>exact h.elim
 |cons a as=>
  refine ⟨_,_,rfl,G,ρ,_,_,s,e,a,h,λaA hp av e'=>?_⟩;exact ⟨G,aA,_,P,s,e',as,hp,q⟩
def DY(n:Nat)(gs:jS):cU:=λd ρ P=>match d with
 | .tup l=>l.length=n∧gs l ρ P
 |_=>False
theorem Gz(n:Nat){es:List Expr}{k:Nat}{gs:jS}(hc:X.calm=true)(h:Gi Z X es gs)(hn:(assignEach es X.env).length=n:=by rfl)(i7:(assignEach es X.env).findIdx? (·.1)=none:=by rfl):DG Z X (.Tuple es k pos) (DY n gs):=by
 refine (Bz hc h hn i7).imp ?_;rintro v σ H Q ⟨G,ρ,d,P,s,e,dv,h,q⟩;cases dv<;>first|exact h.elim|skip
 rename_i a xs ds ha es
 exact ⟨a,xs,rfl,fi.of (s _ _ ha),by rw [es.length];exact h.1,G,ρ,_,P,s,e,es,h.2,q⟩
def rM(Z:DC)(G:Hp)(J:It)(ds:List D):Prop:=∀G2 H2,aG G G2→aG G2 H2→∀i:Nat,(i<ds.length→J.go i H2)∧(ds.length≤i→J.stop i H2)∧
 ∀x H',i<ds.length→J.yld i H2 x H'→∃G3 d,Ext G2 H2 G3 H'∧ds[i]? =some d∧Dv Z G3 x d
def mX(Z:DC)(wi:fT):TI:=λσ H R=>∃(G:Hp)(ρ:DN)(P:List D→Prop),aG G H∧cC Z G σ ρ∧wi ρ P∧∀ds,P ds→∀J G' H',Ext G H G' H'→rM Z G' J ds→R J H'
def DI(Z:DC)(X:Cx)(tg e:Expr)(wi:fT):Prop:=PI X tg e (mX Z wi)
theorem PI.imp{tg e:Expr}{t t':TI}(h:PI X tg e t)(f:∀σ H Q,t' σ H Q→t σ H Q):PI X tg e t':=λpins s σ H Q I q=>h pins s σ H Q I (f _ _ _ q)
def Kg(t:aS):fT:=λρ P=>t ρ λd=>match d with
 | .lst l=>P l
 |_=>False
theorem ED{K:PySem.W.Frag}{G:Hp}{a:Addr}{xs:List V}{ds:List D}(h:G a=some (.lst xs))(e:aq Z G xs ds):rM Z G (JC K a) ds:=by
 intro G2 H2 s1 s2 i;have h2:=cc.of (K:=K) (s2 _ _ (s1 _ _ h));have l:=e.length;refine ⟨λhi=>⟨xs,xs[i],h2,bq (by omega)⟩,λhi=>⟨xs,h2,by omega⟩,?_⟩
 rintro x H' hi ⟨rfl,hx⟩;obtain ⟨d,hd,dv⟩:=e.Bg (hx _ h2);exact ⟨G2,d, .refl s2,hd,dv.mono s1⟩
theorem cx{tg:Expr}(h:DE Z X e te):DI Z X tg e (Kg te):=by
 refine (Fj h).imp ?_;rintro σ H Q ⟨G,ρ,P,s,en,h,q⟩;refine ⟨G,ρ,_,s,en,h,λd hd v G1 H1 x1 dv=>?_⟩;cases dv<;>first|exact hd.elim|skip
 rename_i ha e
 exact ⟨_,rfl,⟨_,cc.of (x1.sub _ _ ha)⟩,q _ hd _ G1 H1 x1 (ED ha e)⟩
def eB(lo:Int)(n:Nat):List D:=(List.range n).map λ(k:Nat)=>D.int (lo+(k:Int))
theorem qA{lo:Int}{n i:Nat}(h:i<n):(eB lo n)[i]? =some (.int (lo+i)):=by
 unfold eB;rw [eJ,xr h];rfl
theorem pO{G:Hp}(lo:Int)(n:Nat):rM Z G (C8 lo n) (eB lo n):=by
 intro G2 H2 s1 s2 i;have l:(eB lo n).length=n:=by unfold eB;simp
 rw [l];refine ⟨λhi=>hi,λhi=>hi,?_⟩;rintro x H' hi ⟨rfl,rfl⟩;exact ⟨G2,_, .refl s2,qA hi, .int _⟩
def IW(t:gW):fT:=λρ P=>t ρ λds=>match ds with
 | [.int j]=>(-(2^62)≤j∧j<2^62)∧P (eB 0 j.toNat)
 |_=>False
def N3(t:gW):fT:=λρ P=>t ρ λds=>match ds with
 | [.int i, .int j]=>(-(2^62)≤i∧i<2^62∧-(2^62)≤j∧j<2^62)∧P (eB i (j-i).toNat)
 |_=>False
variable {t:gW}
theorem mM{tg:Expr}{p:Pos}(hg:Gl X "range")(hm:X.mg "range"=none)(ha:DA Z X [a] t)(hs:starEach [a] X.env= [(false,eval a X.env)]:=by rfl):DI Z X tg (.Call (.Name "range" p) [a] [] pos) (IW t):=by
 refine (tI hg hm ha hs).imp ?_;rintro σ H Q ⟨G,ρ,P,s,en,h,q⟩;refine ⟨G,ρ,_,s,en,h,λds hd vs G1 H1 x1 dv=>?_⟩
 split at hd
 ·obtain ⟨_,rfl,a⟩:=dv.ofOne
  exact ⟨_,by rw [a.ofInt],hd.1.1,hd.1.2,q _ hd.2 _ G1 H1 x1 (pO 0 _)⟩
 ·exact hd.elim
def iJ(l:List D):List D:=l.mapIdx λi x=> .tup [.int (i:Int),x]
def GA(t:gW):fT:=λρ P=>t ρ λds=>match ds with
 | [.lst l]=>P (iJ l)
 |_=>False
theorem EC{K:PySem.W.Frag}{G:Hp}{a:Addr}{xs:List V}{ds:List D}(h:G a=some (.lst xs))(e:aq Z G xs ds):rM Z G (JB K a) (iJ ds):=by
 intro G2 H2 s1 s2 i;have h2:=cc.of (K:=K) (s2 _ _ (s1 _ _ h));have l:=e.length;rw [show (iJ ds).length=ds.length by unfold iJ;simp]
 refine ⟨λhi=>⟨xs,xs[i],h2,bq (by omega)⟩,λhi=>⟨xs,h2,by omega⟩,?_⟩
 rintro x H' hi ⟨t,y,rfl,ht,rfl,hx⟩;obtain ⟨d,hd,dv⟩:=e.Bg (hx _ h2);refine ⟨_,_, .new s2 ht,by unfold iJ;rw [List.getElem?_mapIdx,hd];rfl,?_⟩
 exact .tup aw (.cons (.int _) (.cons ((dv.mono s1).mono (aQ (s2.free ht) _)) .nil))
theorem gZ{p:Pos}{es:List Expr}{k1}{tp:Pos}(hg:Gl X "enumerate")(hm:X.mg "enumerate"=none)(ha:DA Z X [a] t)(hs:starEach [a] X.env= [(false,eval a X.env)]:=by rfl):DI Z X (.Tuple es k1 tp) (.Call (.Name "enumerate" p) [a] [] pos) (GA t):=by
 refine (Fi hg hm ha hs).imp ?_;rintro σ H Q ⟨G,ρ,P,s,en,h,q⟩;refine ⟨G,ρ,_,s,en,h,λds hd vs G1 H1 x1 dv=>?_⟩
 split at hd
 ·obtain ⟨_,rfl,a⟩:=dv.ofOne
  obtain ⟨_,_,rfl,h,e⟩:=a.hJ;exact ⟨_,rfl,⟨_,x1.sub _ _ h⟩,q _ hd _ G1 H1 x1 (EC h e)⟩
 ·exact hd.elim
def tV(src:List (Option Nat))(ρ:DN):DN:=src.map λo=>o.bind λi=>(ρ[i]?).bind id
theorem cC.src{G:Hp}{σ:St}{ρ:DN}(e:cC Z G σ ρ)(src:List (Option Nat)):cC Z G (j0 src σ) (tV src ρ):=by
 refine ⟨by unfold j0 tV;simp,λi d h=>?_⟩
 unfold tV at h;unfold j0;rw [eJ] at h ⊢;cases k:src[i]? with
 |none=>rw [k] at h;cases h
 |some o=>
  rw [k] at h;cases o with
  |none=>cases h
  |some j=>
   have h':(ρ[j]?).bind id=some d:=Option.some.inj h;cases m:ρ[j]? with
   |none=>rw [m] at h';cases h'
   |some z=>
    rw [m] at h';have h2:z=some d:=h';subst h2;obtain ⟨v,hv,dv⟩:=e.at_ j d m;exact ⟨v,by show some ((σ[j]?).bind id)=_;rw [hv];rfl,dv⟩
def lcW(g:cU)(tt:cN)(te:aS):List D→DN→List D→(DN→List D→Prop)→Prop
 | [],ρ,acc,N=>N ρ acc
 |x::xs,ρ,acc,N=>g x ρ λaT=>tt aT λb=>if b=true then te aT λd=>acc.length<sizeLine∧lcW g tt te xs aT (acc++ [d]) N else lcW g tt te xs aT acc N
def J4(wi:fT)(g:cU)(tt:cN)(te:aS)(src:List (Option Nat)):aS:=λρ P=>wi ρ λds=>lcW g tt te ds (tV src ρ) [] λ_ out=>P (.lst out)
def gx(g:cU)(tt:cN)(cz:fT)(g1:cU)(b5:cN)(te:aS):List D→DN→List D→(List D→Prop)→Prop
 | [],_,acc,P=>P acc
 |x::xs,ρ,acc,P=>g x ρ λaT=>tt aT λb=>if b=true then cz aT λes=>lcW g1 b5 te es aT acc λck iX=>gx g tt cz g1 b5 te xs ck iX P else gx g tt cz g1 b5 te xs aT acc P
def IT(wi:fT)(g:cU)(tt:cN)(cz:fT)(g1:cU)(b5:cN)(te:aS)(src:List (Option Nat)):aS:=λρ P=>wi ρ λds=>gx g tt cz g1 b5 te ds (tV src ρ) [] λout=>P (.lst out)
def ma:cN:=λ_ P=>P true
def uk(Z:DC)(X:Cx)(ifs:List Expr)(t:cN):Prop:=kq X ifs (liftT Z t)
theorem kq.imp{ifs:List Expr}{t t':TT}(h:kq X ifs t)(f:∀σ H Q,t' σ H Q→t σ H Q):kq X ifs t':=λpins s σ H Q I q=>h pins s σ H Q I (f _ _ _ q)
theorem eT:uk Z X [] ma:=Fs.imp λσ H Q ⟨G,ρ,P,s,e,p,q⟩=>q _ p G H (.refl s)
theorem nW{tA:cN}(h:DT Z X c tA):uk Z X [c] tA:=Ft h
def CS(Z:DC)(G1 H1:Hp)(Ad:Addr)(ρ:DN)(acc:List D)(σ:St)(H:Hp):Prop:=
 ∃(G:Hp)(ys:List V),aG G1 G∧aG G H∧aG H1 H∧(∀b,H1 b≠none→G1 b=none→G b=none)∧G Ad=none∧H Ad=some (.lst ys)∧aq Z G ys acc∧cC Z G σ ρ
theorem dq{H H':Hp}(s:aG H H'){b:Addr}(h:H b≠none):H' b≠none:=λz=>by
 cases e:H b with
 |none=>exact h e
 |some o=>rw [s b o e] at z;cases z
theorem iZ{α:Type}{l:List α}{i:Nat}{x:α}(h:l[i]? =some x):l.drop i=x::l.drop (i+1):=by
 obtain ⟨hi,e⟩:=fC.mp h;rw [vF hi,e]
theorem vd{G1 H1:Hp}{Ad:Addr}{J:It}{ds:List D}{g:cU}{tt:cN}{te:aS}{N:DN→List D→Prop}(hA:H1 Ad=none)(G0:Hp)(it:rM Z G0 J ds)(i:Nat)(ρ:DN)(acc:List D)(σ:St)(H:Hp)
  (c:CS Z G1 H1 Ad ρ acc σ H) (hG:∀G,aG G1 G→aG G0 G) (hi:i<ds.length) (h:lcW g tt te (ds.drop i) ρ acc N):
  J.go i H∧∀x H3,J.yld i H x H3→kH Z g x σ H3 λdO H4=>liftT Z tt dO H4 λb H5=>
   if b=true then cO Z te dO H5 λv H6=>∃ys,H6 Ad=some (.lst ys)∧ys.length<sizeLine∧(∃aA bO,CS Z G1 H1 Ad aA bO dO (upd H6 Ad (.lst (ys++ [v])))∧lcW g tt te (ds.drop (i+1)) aA bO N)
   else ∃aA bO,CS Z G1 H1 Ad aA bO dO H5∧lcW g tt te (ds.drop (i+1)) aA bO N:=by
 obtain ⟨G2,ys,s1,s2,s3,off,gA,jz,bf,en⟩:=c;obtain ⟨go,_,yld⟩:=it G2 H (hG _ s1) s2 i;refine ⟨go hi,λx H3 y=>?_⟩;obtain ⟨G3,d,x3,hd,dv⟩:=yld x H3 hi y;rw [iZ hd] at h;refine ⟨G3,ρ,d,_,x3.sub,en.mono x3.gg,dv,h,λaT h1 dO nX=>?_⟩;refine ⟨G3,aT,_,x3.sub,nX,h1,λb hb G5 H5 x5=>?_⟩;have f9:=x3.trans x5;have oz:∀{G jt:Hp},Ext G2 H G jt→G Ad=none:=λx=>x.off Ad (by rw [jz];exact λz=>nomatch z) gA
 have je:∀{G jt:Hp},Ext G2 H G jt→∀b,H1 b≠none→G1 b=none→G b=none:=λx b h1 h2=>x.off b (dq s3 h1) (off b h1 h2);cases b with
 |false=>
  refine cy ⟨aT,acc,⟨G5,ys,s1.trans f9.gg,f9.sub,s3.trans f9.hh,je f9,oz f9,f9.hh _ _ jz,bf.mono f9.gg,nX.mono x5.gg⟩,?_⟩;simpa using hb
 |true=>
  refine cD ⟨G5,aT,_,x5.sub,nX.mono x5.gg,(by simpa using hb),λd' lT v G6 H6 x6 Tf=>?_⟩
  have x:=f9.trans x6;refine ⟨ys,x.hh _ _ jz,by rw [bf.length];exact lT.1,aT,_,⟨G6,ys++ [v],s1.trans x.gg,λb o e=>?_,λb o e=>?_,je x,oz x,aw,(bf.mono x.gg).snoc Tf,(nX.mono x5.gg).mono x6.gg⟩,lT.2⟩
  ·rw [aC (aP e (oz x))];exact x.sub _ _ e
  ·rw [aC (aP e hA)];exact (s3.trans x.hh) _ _ e
theorem CS.done{G H G1 H1 H2:Hp}{Ad:Addr}{ρ:DN}{acc:List D}{σ:St}(c:CS Z G1 H1 Ad ρ acc σ H2)(x1:Ext G H G1 H1)(hA:H1 Ad=none):∃G',Ext G H G' H2∧Dv Z G' (.ref Ad) (.lst acc):=by
 obtain ⟨G2,ys,s1,s2,s3,off,gA,jz,bf,en⟩:=c;refine ⟨upd G2 Ad (.lst ys),⟨(x1.gg.trans s1).trans (aQ gA _),λb o e=>?_,x1.hh.trans s3,λb hb hg=>?_⟩, .lst aw (bf.mono (aQ gA _))⟩
 ·by_cases z:b=Ad
  ·subst z;rw [aw] at e;cases e;exact jz
  ·rw [aC z] at e;exact s2 _ _ e
 ·have h1:=dq x1.hh hb
  rw [aC (λz=>h1 (by rw [z];exact hA))]
  exact off b h1 (x1.off b hb hg)
theorem CS.begin{G1 H1:Hp}{Ad:Addr}{ρ:DN}{σ:St}(s:aG G1 H1)(hA:H1 Ad=none)(en:cC Z G1 σ ρ):CS Z G1 H1 Ad ρ [] σ (upd H1 Ad (.lst [])):=
 ⟨G1,[], .refl _,λb o e=>by rw [aC (aP e (s.free hA))];exact s _ _ e,aQ hA _,λ_ _ h=>h,s.free hA,aw, .nil,en⟩
variable {tg iter elt:Expr} {ifs:List Expr} {scope:Scope} {NC:List Str} {src:List (Option Nat)} {wi:fT} {g:cU} {tt:cN}
theorem Bk:∀σ H Q,cO Z (J4 wi g tt te src) σ H Q→H0 (mX Z wi) (kH Z g) (liftT Z tt) (cO Z te) src σ H Q:=by
 rintro σ H Q ⟨G,ρ,P,s,en,h,q⟩;refine ⟨G,ρ,_,s,en,h,λds hd J G1 H1 x1 it Ad hA=>?_⟩;refine ⟨λi m dE H2=>m=ds.length-i∧i≤ds.length∧∃ck acc,CS Z G1 H1 Ad ck acc dE H2∧lcW g tt te (ds.drop i) ck acc λ_ out=>P (.lst out),⟨_,rfl,b9 _,_,[], .begin x1.sub hA ((en.mono x1.gg).src src),hd⟩,?_⟩;rintro i m dE H2 ⟨rfl,hi,ck,acc,c,hl⟩
 by_cases b4:i<ds.length
 ·obtain ⟨go,turn⟩:=vd hA G1 it i ck acc dE H2 c (λ_ s=>s) b4 hl
  exact .inr ⟨go,_,λav H' n=>⟨ds.length-(i+1),by omega,rfl,b4,n⟩,turn⟩
 ·have e:ds.drop i= []:=ub (by omega)
  rw [e] at hl;obtain ⟨G',x,dv⟩:=c.done x1 hA;obtain ⟨G2,ys,s1,s2,_⟩:=c;exact .inl ⟨(it G2 H2 s1 s2 i).2.1 (by omega),q _ hl _ G' H2 x dv⟩
theorem sr(hc:X.calm=true)(c:bU X scope)(dF:cF scope X.N src NC)(hi:DI Z X tg iter wi)
  (hg:∀ex s H,DG Z (b0 X scope NC ex s H) tg g) (ht:∀ex s H,uk Z (b0 X scope NC ex s H) ifs tt) (he:∀ex s H,DE Z (b0 X scope NC ex s H) elt te)
  (hs:∀x,foldedSetIterable iter X.env x=pure x:=by intro _;rfl):DE Z X (.ListComp elt [⟨tg,iter,ifs,0⟩] scope pos) (J4 wi g tt te src):=(Fc hc c dF hi hg ht he hs).imp Bk
variable {t0 i0 t1 i1:Expr} {f0 f1:List Expr} {cz:fT} {g1:cU} {b5:cN}
theorem EM:∀σ H Q,cO Z (IT wi g tt cz g1 b5 te src) σ H Q→F3 (mX Z wi) (kH Z g) (liftT Z tt) (mX Z cz) (kH Z g1) (liftT Z b5) (cO Z te) src σ H Q:=by
 rintro σ H Q ⟨G,ρ,P,s,en,h,q⟩;refine ⟨G,ρ,_,s,en,h,λds hd J G1 H1 x1 it Ad hA=>?_⟩;refine ⟨λi m dE H2=>m=ds.length-i∧i≤ds.length∧∃ck acc,CS Z G1 H1 Ad ck acc dE H2∧gx g tt cz g1 b5 te (ds.drop i) ck acc λout=>P (.lst out),⟨_,rfl,b9 _,_,[], .begin x1.sub hA ((en.mono x1.gg).src src),hd⟩,?_⟩;rintro i m dE H2 ⟨rfl,hi,ck,acc,c,hl⟩
 by_cases b4:i<ds.length
 ·have c0:=c
  obtain ⟨G2,ys,s1,s2,s3,off,gA,jz,bf,Kk⟩:=c;obtain ⟨go,_,yld⟩:=it G2 H2 s1 s2 i;refine .inr ⟨go b4,λav H'=>∃aA bO,CS Z G1 H1 Ad aA bO av H'∧gx g tt cz g1 b5 te (ds.drop (i+1)) aA bO λout=>P (.lst out),λav H' n=>⟨ds.length-(i+1),by omega,rfl,b4,n⟩,λx H3 y=>?_⟩
  obtain ⟨G3,d,x3,Em,dv⟩:=yld x H3 b4 y;rw [iZ Em] at hl;refine ⟨G3,ck,d,_,x3.sub,Kk.mono x3.gg,dv,hl,λaT h1 dO nX=>?_⟩;refine ⟨G3,aT,_,x3.sub,nX,h1,λb hb G5 H5 x5=>?_⟩;have f9:=x3.trans x5;have oz:∀{G jt:Hp},Ext G2 H2 G jt→G Ad=none:=λx=>x.off Ad (by rw [jz];exact λz=>nomatch z) gA
  have je:∀{G jt:Hp},Ext G2 H2 G jt→∀b,H1 b≠none→G1 b=none→G b=none:=λx b h1 h2=>x.off b (dq s3 h1) (off b h1 h2);cases b with
  |false=>exact cy ⟨aT,acc,⟨G5,ys,s1.trans f9.gg,f9.sub,s3.trans f9.hh,je f9,oz f9,f9.hh _ _ jz,bf.mono f9.gg,nX.mono x5.gg⟩,by simpa using hb⟩
  |true=>
   refine cD ⟨G5,aT,_,x5.sub,nX.mono x5.gg,(by simpa using hb),λes KW J1 G6 H6 x6 yo=>?_⟩
   have x:=f9.trans x6;have c6:CS Z G6 H6 Ad aT acc dO H6→True:=λ_=>trivial
   refine ⟨λk m lu H7=>m=es.length-k∧k≤es.length∧∃(uj:DN)(kr:List D),(∃(G:Hp)(ys:List V),aG G6 G∧aG G H7∧aG H1 H7∧(∀b,H1 b≠none→G1 b=none→G b=none)∧G Ad=none∧H7 Ad=some (.lst ys)∧aq Z G ys kr∧cC Z G lu uj)∧
    lcW g1 b5 te (es.drop k) uj kr λck iX=>gx g tt cz g1 b5 te (ds.drop (i+1)) ck iX λout=>P (.lst out),
    ⟨_,rfl,b9 _,aT,acc,⟨G6,ys, .refl _,x.sub,s3.trans x.hh,je x,oz x,x.hh _ _ jz,bf.mono x.gg,(nX.mono x5.gg).mono x6.gg⟩,KW⟩,?_⟩
   rintro k m lu H7 ⟨rfl,hk,uj,kr,⟨G7,xl,a1,a2,a3,a4,a5,a6,a7,a8⟩,wB⟩;have Ks:aG G1 G6:=s1.trans x.gg
   by_cases sN:k<es.length
   ·obtain ⟨Kv,_,Ge⟩:=yo G7 H7 a1 a2 k
    refine .inr ⟨Kv sN,λav H'=>∃(aA:DN)(bO:List D),(∃(G:Hp)(ys:List V),aG G6 G∧aG G H'∧aG H1 H'∧(∀b,H1 b≠none→G1 b=none→G b=none)∧G Ad=none∧H' Ad=some (.lst ys)∧aq Z G ys bO∧cC Z G av aA)∧
     lcW g1 b5 te (es.drop (k+1)) aA bO λck iX=>gx g tt cz g1 b5 te (ds.drop (i+1)) ck iX λout=>P (.lst out),λav H' n=>⟨es.length-(k+1),by omega,rfl,sN,n⟩,λy H8 hy=>?_⟩
    obtain ⟨G8,d8,x8,KQ,Kh⟩:=Ge y H8 sN hy;rw [iZ KQ] at wB;refine ⟨G8,uj,d8,_,x8.sub,a8.mono x8.gg,Kh,wB,λxt h9 XA wq=>?_⟩;refine ⟨G8,xt,_,x8.sub,wq,h9,λb hb C3 C4 t5=>?_⟩;have xx:=x8.trans t5;have oA:∀{G jt:Hp},Ext G7 H7 G jt→G Ad=none:=λx=>x.off Ad (by rw [a6];exact λz=>nomatch z) a5
    have oB:∀{G jt:Hp},Ext G7 H7 G jt→∀b,H1 b≠none→G1 b=none→G b=none:=λx b h1 h2=>x.off b (dq a3 h1) (a4 b h1 h2);cases b with
    |false=>exact cy ⟨xt,kr,⟨C3,xl,a1.trans xx.gg,xx.sub,a3.trans xx.hh,oB xx,oA xx,xx.hh _ _ a6,a7.mono xx.gg,wq.mono t5.gg⟩,by simpa using hb⟩
    |true=>
     refine cD ⟨C3,xt,_,t5.sub,wq.mono t5.gg,(by simpa using hb),λd' lT v Jz Gj Gb D6=>?_⟩
     have xz:=xx.trans Gb;refine ⟨xl,xz.hh _ _ a6,by rw [a7.length];exact lT.1,xt,_,⟨Jz,xl++ [v],a1.trans xz.gg,λb o e=>?_,λb o e=>?_,oB xz,oA xz,aw,(a7.mono xz.gg).snoc D6,(wq.mono t5.gg).mono Gb.gg⟩,lT.2⟩
     ·rw [aC (aP e (oA xz))];exact xz.sub _ _ e
     ·rw [aC (aP e hA)];exact (a3.trans xz.hh) _ _ e
   ·have e:es.drop k= []:=ub (by omega)
    rw [e] at wB;exact .inl ⟨(yo G7 H7 a1 a2 k).2.1 (by omega),uj,kr,⟨G7,xl,Ks.trans a1,a2,a3,a4,a5,a6,a7,a8⟩,wB⟩
 ·have e:ds.drop i= []:=ub (by omega)
  rw [e] at hl;obtain ⟨G',x,dv⟩:=c.done x1 hA;obtain ⟨G2,ys,s1,s2,_⟩:=c;exact .inl ⟨(it G2 H2 s1 s2 i).2.1 (by omega),q _ hl _ G' H2 x dv⟩
end
inductive fE (R:V→D→List Addr→Prop):List V→List D→List Addr→Prop
 |nil:fE R [] [] []
 |cons {v:V} {vs:List V} {d:D} {ds:List D} {f fs:List Addr}:R v d f→fE R vs ds fs→fE R (v::vs) (d::ds) (f++fs)
def GR:D→Bool
 | .lst _=>true
 |_=>false
def Own(Z:DC)(G H:Hp):Nat→V→D→List Addr→Prop
 |0,v,d,fp=>Dv Z G v d∧fp= []
 |n+1,v,d,fp=>(∃a xs ds n5,v= .ref a∧d= .lst ds∧H a=some (.lst xs)∧fp=a::n5∧fE (Own Z G H n) xs ds n5)∨(1≤n∧∃a xs ds,v= .ref a∧d= .tup ds∧G a=some (.tup xs)∧fE (λv d f=>(GR d=true∧Own Z G H n v d f)∨(GR d=false∧Dv Z G v d∧f= [])) xs ds fp)∨(∃a φ,v= .ref a∧H a=some (.ext φ)∧fp= [a]∧((n=98∧∃b ns,d= .set b ns∧φ=eG b a ns)∨(n=97∧∃k,d= .x k∧Dg G a φ k)))
theorem Own.lst{Z:DC}{G H:Hp}{n:Nat}{v:V}{ds:List D}{fp:List Addr}(o:Own Z G H (n+1) v (.lst ds) fp):∃a xs nT n5,v= .ref a∧D.lst ds= .lst nT∧H a=some (.lst xs)∧fp=a::n5∧fE (Own Z G H n) xs nT n5:=by
 rcases o with o| ⟨_,a,xs,ds,_,e,_⟩ | ⟨a,φ,_,_,_,⟨_,b,ns,e,_⟩ | ⟨_,k,e,_⟩⟩
 ·exact o
 ·cases e
 ·cases e
 ·cases e
theorem Own.Js{Z:DC}{G H:Hp}{v:V}{b:Bool}{ns:List Int}{fp:List Addr}(o:Own Z G H 99 v (.set b ns) fp):∃a,v= .ref a∧H a=some (.ext (eG b a ns))∧fp= [a]:=by
 rcases o with ⟨_,_,_,_,_,e,_⟩ | ⟨_,a,xs,ds,_,e,_⟩ | ⟨a,φ,h1,h2,h3,⟨_,b,ns,e,e2⟩ | ⟨_,k,e,_⟩⟩
 ·cases e
 ·cases e
 ·cases e;subst e2;exact ⟨a,h1,h2,h3⟩
 ·cases e
theorem Own.one{Z:DC}{G H:Hp}{v:V}{d:D}{fp:List Addr}(o:Own Z G H 1 v d fp):∃a xs ds n5,v= .ref a∧d= .lst ds∧H a=some (.lst xs)∧fp=a::n5∧fE (Own Z G H 0) xs ds n5:=by
 rcases o with o| ⟨z,_⟩ | ⟨_,_,_,_,_,⟨z,_⟩ | ⟨z,_⟩⟩
 ·exact o
 ·exact absurd z (by decide)
 ·exact absurd z (by decide)
 ·exact absurd z (by decide)
theorem fE.imp{R R':V→D→List Addr→Prop}:∀{vs:List V}{ds:List D}{fp:List Addr},fE R vs ds fp→(∀v d f,(∀b∈f,b∈fp)→R v d f→R' v d f)→fE R' vs ds fp
 |_,_,_, .nil,_=> .nil
 |_,_,_, .cons a as,h=> .cons (h _ _ _ (λb hb=>dW _ hb) a) (as.imp λv d f hf r=>h v d f (λb hb=>eY _ (hf b hb)) r)
section
variable {Z:DC} {G G' H H':Hp}
theorem Own.keep:∀{n:Nat}{v:V}{d:D}{fp:List Addr},Own Z G H n v d fp→aG G G'→(∀b∈fp,H' b=H b)→Own Z G' H' n v d fp
 |0,_,_,_,⟨a,b⟩,s,_=>⟨a.mono s,b⟩
 |n+1,_,_,_, .inl ⟨a,xs,ds,n5,hv,hd,ha,hf,ho⟩,s,k=>by
  subst hf;exact .inl ⟨a,xs,ds,n5,hv,hd,by rw [k a (bP ..)];exact ha,rfl,ho.imp λv d f hb r=>Own.keep r s λb q=>k b (bV _ (hb b q))⟩
 |n+1,_,_,_, .inr (.inl ⟨h1,a,xs,ds,hv,hd,ha,ho⟩),s,k=> .inr (.inl ⟨h1,a,xs,ds,hv,hd,s _ _ ha,ho.imp λv d f hb r=>r.imp (λr=>⟨r.1,Own.keep r.2 s λb q=>k b (hb b q)⟩) λr=>⟨r.1,r.2.1.mono s,r.2.2⟩⟩)
 |n+1,_,_,_, .inr (.inr ⟨a,φ,hv,ha,hf,hx⟩),s,k=> .inr (.inr ⟨a,φ,hv,by rw [k a (by rw [hf];exact bP ..)];exact ha,hf,hx.imp id λ⟨h1,k,h2,h3⟩=>⟨h1,k,h2,h3.mono s⟩⟩)
theorem fE.xW{R:V→D→List Addr→Prop}:∀{vs:List V}{ds:List D}{fp:List Addr},fE R vs ds fp→(∀v d f,(∀b∈f,b∈fp)→R v d f→Dv Z G' v d)→aq Z G' vs ds
 |_,_,_, .nil,_=> .nil
 |_,_,_, .cons a as,k=> .cons (k _ _ _ (λb hb=>dW _ hb) a) (as.xW λv d f hf r=>k v d f (λb hb=>eY _ (hf b hb)) r)
theorem Own.dv:∀{n:Nat}{v:V}{d:D}{fp:List Addr},Own Z G H n v d fp→aG G G'→(∀b∈fp,∀o,H b=some o→G' b=some o)→Dv Z G' v d
 |0,_,_,_,⟨a,_⟩,s,_=>a.mono s
 |n+1,_,_,_, .inl ⟨a,xs,ds,n5,hv,hd,ha,hf,ho⟩,s,k=>by
  subst hf hv hd;exact .lst (k a (bP ..) _ ha) (ho.xW λv d f hf r=>Own.dv r s λb hb=>k b (bV _ (hf b hb)))
 |n+1,_,_,_, .inr (.inl ⟨_,a,xs,ds,hv,hd,ha,ho⟩),s,k=>by
  subst hv hd;exact .tup (s _ _ ha) (ho.xW λv d f hf r=>r.elim (λr=>Own.dv r.2 s λb hb=>k b (hf b hb)) λr=>r.2.1.mono s)
 |n+1,_,_,_, .inr (.inr ⟨a,φ,hv,ha,hf,hx⟩),s,k=>by
  subst hv hf
  rcases hx with ⟨_,b,ns,hd,hp⟩ | ⟨_,kx,hd,hp⟩
  ·subst hd hp
   exact .set (k a (bP ..) _ ha)
  ·subst hd
   exact .x (k a (bP ..) _ ha) (hp.mono s)
theorem fE.flat:∀{vs:List V}{ds:List D}{fp:List Addr},fE (Own Z G H 0) vs ds fp→aq Z G vs ds∧fp= []
 |_,_,_, .nil=>⟨.nil,rfl⟩
 |_,_,_, .cons a as=>by
  obtain ⟨h1,h2⟩:=as.flat;obtain ⟨a1,a2⟩:=a;exact ⟨.cons a1 h1,by rw [a2,h2];rfl⟩
theorem aq.own:∀{vs:List V}{ds:List D},aq Z G vs ds→fE (Own Z G H 0) vs ds []
 |_,_, .nil=> .nil
 |_,_, .cons a as=> .cons (f:= []) (fs:= []) ⟨a,rfl⟩ as.own
theorem Dv.flat{v:V}{d:D}(h:Dv Z G v d)(f:eO d=true):Dv Z G' v d:=by
 cases h with
 |aZ=>exact .aZ
 |bl b=>exact .bl b
 |int i=>exact .int i
 |str x k=>exact .str x k
 |_=>cases f
end
mutual
def kJ:D→Bool
 | .aZ=>true
 | .bl _=>true
 | .int _=>true
 | .str _=>true
 | .tup l=>Bp l
 |_=>false
def Bp:List D→Bool
 | []=>true
 |d::ds=>kJ d&&Bp ds
end
mutual
theorem Dv.kJ{Z:DC}{G G':Hp}(k:∀b xs,G b=some (.tup xs)→G' b=some (.tup xs)):∀{v:V}{d:D},Dv Z G v d→L2.kJ d=true→Dv Z G' v d
 |_,_, .aZ,_=> .aZ
 |_,_, .bl b,_=> .bl b
 |_,_, .int i,_=> .int i
 |_,_, .str x h,_=> .str x h
 |_,_, .tup h a,f=> .tup (k _ _ h) (aq.kJ k a (by rw [L2.kJ] at f;exact f))
 |_,_, .lst _ _,f=>by simp [L2.kJ] at f
 |_,_, .obj _,f=>by simp [L2.kJ] at f
 |_,_, .rng _,f=>by simp [L2.kJ] at f
 |_,_, .jq _ _,f=>by simp [L2.kJ] at f
 |_,_, .dN _ _ _ _ _,f=>by simp [L2.kJ] at f
 |_,_, .set _,f=>by simp [L2.kJ] at f
 |_,_, .x _ _,f=>by simp [L2.kJ] at f
theorem aq.kJ{Z:DC}{G G':Hp}(k:∀b xs,G b=some (.tup xs)→G' b=some (.tup xs)):∀{vs:List V}{ds:List D},aq Z G vs ds→Bp ds=true→aq Z G' vs ds
 |_,_, .nil,_=> .nil
 |_,_, .cons a as,f=>by
  rw [Bp,uh] at f;exact .cons (Dv.kJ k a f.1) (aq.kJ k as f.2)
end
def Jn:HO→Bool
 | .lst _=>true
 | .ext _=>true
 |_=>false
theorem Own.Ki{Z:DC}{G G' H:Hp}:∀{n:Nat}{v:V}{d:D}{fp:List Addr},Own Z G H n v d fp→aG G G'→(∀b∈fp,∀o,Jn o=true→H b=some o→G' b=some o)→Dv Z G' v d
 |0,_,_,_,⟨a,_⟩,s,_=>a.mono s
 |n+1,_,_,_, .inl ⟨a,xs,ds,n5,hv,hd,ha,hf,ho⟩,s,k=>by
  subst hf hv hd;exact .lst (k a (bP ..) _ rfl ha) (ho.xW λv d f hf r=>Own.Ki r s λb hb=>k b (bV _ (hf b hb)))
 |n+1,_,_,_, .inr (.inl ⟨_,a,xs,ds,hv,hd,ha,ho⟩),s,k=>by
  subst hv hd;exact .tup (s _ _ ha) (ho.xW λv d f hf r=>r.elim (λr=>Own.Ki r.2 s λb hb=>k b (hf b hb)) λr=>r.2.1.mono s)
 |n+1,_,_,_, .inr (.inr ⟨a,φ,hv,ha,hf,hx⟩),s,k=>by
  subst hv hf
  rcases hx with ⟨_,b,ns,hd,hp⟩ | ⟨_,kx,hd,hp⟩
  ·subst hd hp
   exact .set (k a (bP ..) _ rfl ha)
  ·subst hd
   exact .x (k a (bP ..) _ rfl ha) (hp.mono s)
structure Bs where
 G₀:Hp
 H₀:Hp
 Gf:Hp
structure SIx (Z:DC) (B:Bs) (md:List Nat) (ρ:DN) (σ:St) (H G:Hp) (fp:Nat→List Addr):Prop where
 ex:Ext B.G₀ B.H₀ G H
 fl:aG B.Gf G
 len:ρ.length=σ.length
 at_:∀(i:Nat)(d:D),ρ[i]? =some (some d)→∃v,σ[i]? =some (some v)∧Own Z G H (md.getD i 0) v d (fp i)
 nd:∀i,(fp i).Nodup
 ap:∀i j b,i≠j→b∈fp i→b∉fp j
 nw:∀i b,b∈fp i→B.H₀ b=none∧H b≠none∧G b=none
def SI(Z:DC)(B:Bs)(md:List Nat)(ρ:DN)(σ:St)(H:Hp):Prop:=∃G fp,SIx Z B md ρ σ H G fp
def dh:List Nat→DN→DN
 |_,[]=> []
 | [],o::ρ=>o::ρ
 |0::md,o::ρ=>o::dh md ρ
 | (_+1)::md,_::ρ=>none::dh md ρ
theorem m9:∀(md:List Nat)(ρ:DN),(dh md ρ).length=ρ.length
 |md,[]=>by cases md<;>rfl
 | [],o::ρ=>rfl
 |0::md,o::ρ=>by rw [dh,dY,m9 md ρ,dY]
 | (_+1)::md,_::ρ=>by rw [dh,dY,m9 md ρ,dY]
theorem p5{d:D}:∀(md:List Nat)(ρ:DN)(i:Nat),(dh md ρ)[i]? =some (some d)→md.getD i 0=0∧ρ[i]? =some (some d)
 |md,[],i,h=>by cases md<;>simp [dh] at h
 | [],o::ρ,i,h=>⟨by simp,h⟩
 |0::md,o::ρ,0,h=>⟨rfl,by simpa [dh] using h⟩
 |0::md,o::ρ,i+1,h=>by
  rw [dh,ua] at h;obtain ⟨a,b⟩:=p5 md ρ i h;exact ⟨by rw [j4];exact a,by rw [ua];exact b⟩
 | (_+1)::md,_::ρ,0,h=>by simp [dh] at h
 | (_+1)::md,_::ρ,i+1,h=>by
  rw [dh,ua] at h;obtain ⟨a,b⟩:=p5 md ρ i h;exact ⟨by rw [j4];exact a,by rw [ua];exact b⟩
def AS(md:List Nat):Bool→DN→DN
 |true,ρ=>ρ
 |false,ρ=>dh md ρ
def nY:Bool→D→Prop
 |true,d=>kJ d=true
 |false,_=>True
section
variable {Z:DC} {B:Bs} {md:List Nat} {ρ:DN} {σ:St} {H G:Hp} {fp:Nat→List Addr}
theorem Aw{i:Nat}{d:D}(h:(dh md ρ)[i]? =some (some d)):md.getD i 0=0∧ρ[i]? =some (some d):=p5 md ρ i h
theorem SIx.D9(S:SIx Z B md ρ σ H G fp):cC Z G σ (dh md ρ):=by
 refine ⟨by rw [m9];exact S.len,λi d h=>?_⟩
 obtain ⟨z,h⟩:=Aw h;obtain ⟨v,hv,o⟩:=S.at_ i d h;rw [z] at o;exact ⟨v,hv,o.1⟩
theorem SIx.D8(S:SIx Z B md ρ σ H G fp):cC Z H σ ρ:=by
 refine ⟨S.len,λi d h=>?_⟩;obtain ⟨v,hv,o⟩:=S.at_ i d h;exact ⟨v,hv,o.dv S.ex.sub λb _ u e=>e⟩
theorem SIx.grow{G' H':Hp}(S:SIx Z B md ρ σ H G fp)(x:Ext G H G' H'):SIx Z B md ρ σ H' G' fp where
 ex:=S.ex.trans x
 fl:=S.fl.trans x.gg
 len:=S.len
 at_:=λi d h=>by
  obtain ⟨v,hv,o⟩:=S.at_ i d h;refine ⟨v,hv,o.keep x.gg λb hb=>?_⟩;cases e:H b with
  |none=>exact absurd e (S.nw i b hb).2.1
  |some u=>exact x.hh _ _ e
 nd:=S.nd
 ap:=S.ap
 nw:=λi b hb=>let ⟨h1,h2,h3⟩:=S.nw i b hb;⟨h1,dq x.hh h2,x.off b h2 h3⟩
theorem Ext.all{G' H':Hp}(s:aG G H)(x:Ext H H G' H'):Ext G H G H':=⟨.refl _,s.trans x.hh,x.hh,λ_ _ h=>h⟩
open Classical in
noncomputable def gu(G H:Hp)(fp:Nat→List Addr):Hp:=λb=>if ∃i,b∈fp i then (match H b with|some (.lst xs)=>some (.lst xs) |some (.ext φ)=>some (.ext φ) |_=>none) else G b
open Classical in
noncomputable def pP(G:Hp)(fp:Nat→List Addr):Hp:=λb=>if ∃i,b∈fp i then none else G b
theorem C2{b:Addr}{o:HO}(i:Nat)(h:b∈fp i)(ho:Jn o=true)(e:H b=some o):gu G H fp b=some o:=by
 unfold gu;rw [if_pos ⟨i,h⟩,e];cases o<;>first|rfl|cases ho
theorem nu{b:Addr}(h:¬∃i,b∈fp i):gu G H fp b=G b:=if_neg h
theorem SIx.IZ(S:SIx Z B md ρ σ H G fp):aG G (gu G H fp)∧aG (gu G H fp) H∧cC Z (gu G H fp) σ ρ:=by
 have s1:aG G (gu G H fp):=λb o e=>by
  by_cases h:∃i,b∈fp i
  ·obtain ⟨i,hi⟩:=h
   rw [(S.nw i b hi).2.2] at e;cases e
  ·rw [nu h];exact e
 refine ⟨s1,λb o e=>?_,S.len,λi d h=>?_⟩
 ·by_cases h:∃i,b∈fp i
  ·unfold gu at e
   rw [if_pos h] at e
   split at e
   ·next xs hx=>rw [hx];exact e
   ·next φ hx=>rw [hx];exact e
   ·cases e
  ·rw [nu h] at e;exact S.ex.sub _ _ e
 ·obtain ⟨v,hv,o⟩:=S.at_ i d h
  exact ⟨v,hv,o.Ki s1 λb hb u hu hx=>C2 i hb hu hx⟩
theorem SIx.Qh{G' H':Hp}(S:SIx Z B md ρ σ H G fp)(x:Ext (gu G H fp) H G' H'):Ext G H (pP G' fp) H'∧∀b xs,G' b=some (.tup xs)→pP G' fp b=some (.tup xs):=by
 obtain ⟨s1,s2,_⟩:=S.IZ;refine ⟨⟨λb o e=>?_,λb o e=>?_,x.hh,λb hb hg=>?_⟩,λb xs e=>?_⟩
 ·have h:¬∃i,b∈fp i:=by
   rintro ⟨i,hi⟩;rw [(S.nw i b hi).2.2] at e;cases e
  unfold pP;rw [if_neg h];exact x.gg _ _ (s1 _ _ e)
 ·unfold pP at e
  split at e
  ·cases e
  ·exact x.sub _ _ e
 ·unfold pP
  split
  ·rfl
  ·next h=>exact x.off b hb (by rw [nu h];exact hg)
 ·have h:¬∃i,b∈fp i:=by
   rintro ⟨i,hi⟩;have hb:=(S.nw i b hi).2.1;cases hw:gu G H fp b with
   |none=>rw [x.off b hb hw] at e;cases e
   |some o=>
    have:=x.gg _ _ hw
    rw [e] at this;cases this;unfold gu at hw;rw [if_pos ⟨i,hi⟩] at hw
    split at hw<;>cases hw
  unfold pP;rw [if_neg h];exact e
theorem SIx.ev{t:aS}{P:D→Prop}{Q:VK}(S:SIx Z B md ρ σ H G fp)(m:Bool)(h:t (AS md m ρ) P)
  (hq:∀d,P d→nY m d∧∀v G' H',SIx Z B md ρ σ H' G' fp→Ext G H G' H'→Dv Z G' v d→Q v H'):cO Z t σ H Q:=by
 cases m with
 |false=>exact ⟨G,_,P,S.ex.sub,S.D9,h,λd hd v G' H' x dv=>(hq d hd).2 v G' H' (S.grow x) x dv⟩
 |true=>
  obtain ⟨s1,s2,e⟩:=S.IZ;refine ⟨gu G H fp,_,P,s2,e,h,λd hd v G' H' x dv=>?_⟩;obtain ⟨x',k⟩:=S.Qh x;exact (hq d hd).2 v _ H' (S.grow x') x' (dv.kJ k (hq d hd).1)
theorem SIx.N4{t:cN}{P:Bool→Prop}{Q:Bool→Hp→Prop}(S:SIx Z B md ρ σ H G fp)(h:t ρ P)(hq:∀b,P b→∀H',SIx Z B md ρ σ H' G fp→Q b H'):liftT Z t σ H Q:=
 ⟨H,ρ,P, .refl _,S.D8,h,λb hb G' H' x=>hq b hb H' (S.grow (Ext.all S.ex.sub x))⟩
theorem SIx.yO{i:Nat}{v:V}{d:D}(S:SIx Z B md ρ σ H G fp)(hm:md.getD i 0=0)(dv:Dv Z G v d):SIx Z B md (ρ.set i (some d)) (σ.set i (some v)) H G (λj=>if j=i then [] else fp j) where
 ex:=S.ex
 fl:=S.fl
 len:=by rw [j6,j6];exact S.len
 at_:=λj c h=>by
  by_cases z:i=j
  ·subst z
   by_cases hi:i<ρ.length
   ·rw [ph hi] at h
    cases h;exact ⟨v,ph (by rw [←S.len];exact hi),by rw [hm,if_pos rfl];exact ⟨dv,rfl⟩⟩
   ·rw [BO (mG hi),j3 (mG hi)] at h;cases h
  ·rw [vH z] at h ⊢
   rw [if_neg (Ne.symm z)];exact S.at_ j c h
 nd:=λj=>by split;exact j8;exact S.nd j
 ap:=λj k b ne hj hk=>by
  split at hj
  ·cases hj
  ·split at hk
   ·cases hk
   ·exact S.ap j k b ne hj hk
 nw:=λj b hb=>by
  split at hb
  ·cases hb
  ·exact S.nw j b hb
theorem SIx.FH{i n:Nat}{v:V}{d:D}{f:List Addr}(S:SIx Z B md ρ σ H G fp)(hm:md.getD i 0=n)(o:Own Z G H n v d f)(nd:f.Nodup)(nw:∀b∈f,B.H₀ b=none∧H b≠none∧G b=none)(ap:∀b∈f,∀j,j≠i→b∉fp j):
  SIx Z B md (ρ.set i (some d)) (σ.set i (some v)) H G (λj=>if j=i then f else fp j) where
 ex:=S.ex
 fl:=S.fl
 len:=by rw [j6,j6];exact S.len
 at_:=λj c h=>by
  by_cases z:i=j
  ·subst z
   by_cases hi:i<ρ.length
   ·rw [ph hi] at h
    cases h;exact ⟨v,ph (by rw [←S.len];exact hi),by rw [hm,if_pos rfl];exact o⟩
   ·rw [BO (mG hi),j3 (mG hi)] at h;cases h
  ·rw [vH z] at h ⊢
   rw [if_neg (Ne.symm z)];exact S.at_ j c h
 nd:=λj=>by split;exact nd;exact S.nd j
 ap:=λj k b ne hj hk=>by
  split at hj
  ·next z=>
   rw [if_neg (λw=>ne (z.trans w.symm))] at hk;exact ap b hj k (λw=>ne (z.trans w.symm)) hk
  ·next z=>
   split at hk
   ·exact ap b hk j z hj
   ·exact S.ap j k b ne hj hk
 nw:=λj b hb=>by
  split at hb
  ·exact nw b hb
  ·exact S.nw j b hb
noncomputable def plus(G H:Hp)(F:Addr→Prop):Hp:=λb=>open Classical in if F b then H b else G b
theorem jh{F:Addr→Prop}{b:Addr}(h:F b):plus G H F b=H b:=by unfold plus;rw [if_pos h]
theorem gS{F:Addr→Prop}{b:Addr}(h:¬F b):plus G H F b=G b:=by unfold plus;rw [if_neg h]
theorem fR{F:Addr→Prop}(s:aG G H):aG (plus G H F) H:=λb o e=>by
 by_cases h:F b
 ·rw [jh h] at e;exact e
 ·rw [gS h] at e;exact s _ _ e
theorem e9{F:Addr→Prop}(s:aG G H):aG G (plus G H F):=λb o e=>by
 by_cases h:F b
 ·rw [jh h];exact s _ _ e
 ·rw [gS h];exact e
theorem SIx.Tn{t:aS}{P:D→Prop}{Q:VK}(S:SIx Z B md ρ σ H G fp)(h:t ρ P)(hq:∀d,P d→∀v G' H',Ext B.G₀ B.H₀ G' H'→Dv Z G' v d→Q v H'):cO Z t σ H Q:=by
 let F:Addr→Prop:=λb=>∃i,b∈fp i
 have s:=S.ex.sub
 have x0:Ext B.G₀ B.H₀ (plus G H F) H:=⟨S.ex.gg.trans (e9 s),fR s,S.ex.hh,λb hb hg=>by
  rw [gS (λ⟨i,hi⟩=>hb (S.nw i b hi).1)];exact S.ex.off b hb hg⟩
 refine ⟨plus G H F,ρ,P,fR s,⟨S.len,λi d h=>?_⟩,h,λd hd v G' H' x dv=>hq d hd v G' H' (x0.trans x) dv⟩;obtain ⟨v,hv,o⟩:=S.at_ i d h;exact ⟨v,hv,o.dv (e9 s) λb hb u e=>by rw [jh ⟨i,hb⟩];exact e⟩
end
structure gf where
 nx:DN→Prop
 rt:D→Prop
 bk:DN→Prop:=λ_=>False
 ct:DN→Prop:=λ_=>False
abbrev dD:=gf→DN→Prop
structure Meets (Z:DC) (B:Bs) (md:List Nat) (rn:Nat) (E:gf) (Dn:Ends):Prop where
 nx:∀ρ,E.nx ρ→∀σ H,SI Z B md ρ σ H→Dn.nx σ H
 rt:∀d,E.rt d→∀v f G' H',Ext B.G₀ B.H₀ G' H'→Own Z G' H' rn v d f→f.Nodup→(∀b∈f,B.H₀ b=none∧H' b≠none∧G' b=none)→Dn.rt v H'
 bk:∀ρ,E.bk ρ→∀σ H,SI Z B md ρ σ H→Dn.bk σ H
 ct:∀ρ,E.ct ρ→∀σ H,SI Z B md ρ σ H→Dn.ct σ H
def mY(Z:DC)(md:List Nat)(rn:Nat)(t:dD):TS:=λDn σ H=>∃(B:Bs)(ρ:DN)(E:gf),SI Z B md ρ σ H∧t E ρ∧Meets Z B md rn E Dn
def DSt(Z:DC)(X:Cx)(md:List Nat)(rn:Nat)(st:Stmt)(t:dD):Prop:=PS X st (mY Z md rn t)
def rJ(Z:DC)(X:Cx)(md:List Nat)(rn:Nat)(q0:List Stmt)(t:dD):Prop:=ko X q0 (mY Z md rn t)
theorem PS.imp{X:Cx}{st:Stmt}{t t':TS}(h:PS X st t)(f:∀D σ H,t' D σ H→t D σ H):PS X st t':=λpins s σ H D I q=>h pins s σ H D I (f _ _ _ q)
theorem ko.imp{X:Cx}{st:List Stmt}{t t':TS}(h:ko X st t)(f:∀D σ H,t' D σ H→t D σ H):ko X st t':=λpins s σ H D I q=>h pins s σ H D I (f _ _ _ q)
section
variable {Z:DC} {X:Cx} {md:List Nat} {rn:Nat} {st:Stmt} {q0:List Stmt} {t u:dD} {e:Expr} {te:aS} {pos:Pos}
def DL:dD:=λE ρ=>E.nx ρ
def sm(t u:dD):dD:=λE ρ=>t {E with nx:=u E} ρ
theorem ba:rJ Z X md rn [] DL:=Fp.imp λD σ H ⟨B,ρ,E,S,h,M⟩=>M.nx _ h _ _ S
theorem ah(h1:DSt Z X md rn st t)(h2:rJ Z X md rn q0 u):rJ Z X md rn (st::q0) (sm t u):=
 (jj h1 h2).imp λD σ H ⟨B,ρ,E,S,h,M⟩=>⟨B,ρ,_,S,h,⟨λaA h' av H' S'=>⟨B,aA,E,S',h',M⟩,M.rt,M.bk,M.ct⟩⟩
theorem ao(h1:DSt Z X md rn st t):rJ Z X md rn [st] t:=yJ h1
theorem uQ:DSt Z X md rn st (λ_ _=>False):=CJ.imp λD σ H ⟨B,ρ,E,S,h,M⟩=>h
theorem B3{pos}:DSt Z X md rn (.Break pos) (λE ρ=>E.bk ρ):=CI.imp λD σ H ⟨B,ρ,E,S,h,M⟩=>M.bk _ h _ _ S
def NA(te:aS):dD:=λE ρ=>te ρ E.rt
theorem aI(he:DE Z X e te):DSt Z X md 0 (.Return (some e) pos) (NA te):=(wZ he).imp λD σ H ⟨B,ρ,E,⟨G,fp,S⟩,h,M⟩=>S.Tn h λd hd v G' H' x dv=>M.rt d hd v [] G' H' x ⟨dv,rfl⟩ j8 (λb hb=>by cases hb)
def IS(c:cN)(t u:dD):dD:=λE ρ=>c ρ λb=>if b=true then t E ρ else u E ρ
theorem bT{c:Expr}{a b:List Stmt}{tc:cN}(hc:DT Z X c tc)(ha:rJ Z X md rn a t)(hb:rJ Z X md rn b u):DSt Z X md rn (.If c a b pos) (IS tc t u):=by
 refine (LK hc ha hb).imp ?_;rintro D σ H ⟨B,ρ,E,⟨G,fp,S⟩,h,M⟩;refine S.N4 h λb hb H' S'=>?_;cases b with
 |true=>exact cD ⟨B,ρ,E,⟨G,fp,S'⟩,(by simpa using hb),M⟩
 |false=>exact cy ⟨B,ρ,E,⟨G,fp,S'⟩,(by simpa using hb),M⟩
def DP(md:List Nat)(m:Bool)(i:Nat)(te:aS):dD:=λE ρ=>te (AS md m ρ) λd=>nY m d∧E.nx (ρ.set i (some d))
theorem aE(m:Bool)(i:Nat){x:Str}{pos':Pos}(hN:X.N.Nodup)(he:DE Z X e te)(hm:md.getD i 0=0:=by rfl)(hi:X.N[i]? =some x:=by rfl)(hx:Loc X.env.scope x:=by first|exact Or.inl rfl|exact Or.inr rfl)(hs:swapsWith e (some (.Name x pos')) pos.line X.env=pure false:=by rfl)
  (hf:X.fn x=true∨X.env.scope.names.lookup x=some .local:=by first|exact .inl rfl|exact .inr rfl|assumption):DSt Z X md rn (.Assign [.Name x pos'] e pos) (DP md m i te):=by
 refine (oK hN hi hx he hs hf).imp ?_;rintro D σ H ⟨B,ρ,E,⟨G,fp,S⟩,h,M⟩;exact S.ev m h λd hd=>⟨hd.1,λv G' H' S' x dv=>M.nx _ hd.2 _ _ ⟨G',_,S'.yO hm dv⟩⟩
theorem uT(i:Nat){x:Str}{px f6:Pos}{tg iter elt:Expr}{ifs:List Expr}{scope:Scope}{NC:List Str}{src:List (Option Nat)}{wi:fT}{g:cU}{tt:cN}(hc:X.calm=true)(hN:X.N.Nodup)(c:bU X scope)(dF:cF scope X.N src NC)(hi:DI Z X tg iter wi)
  (hg:∀ex s H,DG Z (b0 X scope NC ex s H) tg g) (ht:∀ex s H,uk Z (b0 X scope NC ex s H) ifs tt) (he:∀ex s H,DE Z (b0 X scope NC ex s H) elt te)
  (jB:swapsWith (.ListComp elt [⟨tg,iter,ifs,0⟩] scope pos) (some (.Name x px)) f6.line X.env=pure true:=by rfl) (hm:md.getD i 0=0:=by rfl) (kD:X.N[i]? =some x:=by rfl) (hx:Loc X.env.scope x:=by first|exact Or.inl rfl|exact Or.inr rfl)
  (hf:X.fn x=true∨X.env.scope.names.lookup x=some .local:=by first|exact .inl rfl|exact .inr rfl|assumption)
  (hs:∀x,foldedSetIterable iter X.env x=pure x:=by intro _;rfl):DSt Z X md rn (.Assign [.Name x px] (.ListComp elt [⟨tg,iter,ifs,0⟩] scope pos) f6) (DP md false i (J4 wi g tt te src)):=by
 refine (vz hc hN kD hx c dF hi hg ht he jB hf hs).imp ?_;rintro D σ H ⟨B,ρ,E,⟨G,fp,S⟩,h,M⟩;refine Bk σ H _ (S.ev false h λd hd=>⟨hd.1,λv G' H' S' x dv=>M.nx _ hd.2 _ _ ⟨G',_,S'.yO hm dv⟩⟩)
end
end L2
namespace L2
open PySem PySem.Spec PyProof.Rows
section
variable {Z:DC} {X:Cx} {B:Bs} {md:List Nat} {rn:Nat} {ρ:DN} {σ:St} {H G:Hp} {fp:Nat→List Addr}
def Bj(Z:DC)(md:List Nat)(g:cU):TG:=λv σ H Q=>∃(B:Bs)(ρ:DN)(d:D)(P:DN→Prop)(G:Hp)(fp:Nat→List Addr),SIx Z B md ρ σ H G fp∧Dv Z G v d∧g d ρ P∧∀aA,P aA→∀av zC,SIx Z B md aA av H G zC→Q av H
def EL(Z:DC)(md:List Nat)(g:jS):uo:=λvs σ H Q=>∃(B:Bs)(ρ:DN)(ds:List D)(P:DN→Prop)(G:Hp)(fp:Nat→List Addr),SIx Z B md ρ σ H G fp∧aq Z G vs ds∧g ds ρ P∧∀aA,P aA→∀av zC,SIx Z B md aA av H G zC→Q av H
def BR(Z:DC)(X:Cx)(md:List Nat)(e:Expr)(g:cU):Prop:=PG X e (Bj Z md g)
def AY(Z:DC)(X:Cx)(md:List Nat)(es:List Expr)(g:jS):Prop:=vU X es (EL Z md g)
theorem aL(i:Nat){x:Str}{pos:Pos}(hN:X.N.Nodup)(hm:md.getD i 0=0:=by rfl)(hi:X.N[i]? =some x:=by rfl)(hx:Loc X.env.scope x:=by first|exact Or.inl rfl|exact Or.inr rfl)(hf:X.fn x=true∨X.env.scope.names.lookup x=some .local:=by first|exact .inl rfl|exact .inr rfl|assumption):BR Z X md (.Name x pos) (rq i):=
 (yF hN hi hx hf).imp λv σ H Q ⟨B,ρ,d,P,G,fp,S,dv,h,q⟩=>q _ h _ _ (S.yO hm dv)
theorem cH:AY Z X md [] DX:=yG.imp λv σ H Q ⟨B,ρ,ds,P,G,fp,S,dv,⟨h,p⟩,q⟩=>by
 subst h;cases dv;exact ⟨rfl,q _ p _ _ S⟩
theorem aY{e:Expr}{es:List Expr}{g:cU}{gs:jS}(h1:BR Z X md e g)(h2:AY Z X md es gs)(hs:(assignEach (e::es) X.env).map (·.2)=assign e X.env::(assignEach es X.env).map (·.2):=by rfl):AY Z X md (e::es) (A8 g gs):=by
 refine (vv h1 h2 hs).imp ?_;rintro v σ H Q ⟨B,ρ,ds,P,G,fp,S,dv,h,q⟩;cases dv with
 |nil=>exact h.elim
 |cons a as=>exact ⟨_,_,rfl,B,ρ,_,_,G,fp,S,a,h,λaA hp av zC S'=>⟨B,aA,_,P,G,zC,S',as,hp,q⟩⟩
theorem eZ(n:Nat){es:List Expr}{k:Nat}{pos:Pos}{gs:jS}(hc:X.calm=true)(h:AY Z X md es gs)(hn:(assignEach es X.env).length=n:=by rfl)(i7:(assignEach es X.env).findIdx? (·.1)=none:=by rfl):BR Z X md (.Tuple es k pos) (DY n gs):=by
 refine (Bz hc h hn i7).imp ?_;rintro v σ H Q ⟨B,ρ,d,P,G,fp,S,dv,h,q⟩;cases dv<;>first|exact h.elim|skip
 rename_i a xs ds ha es
 exact ⟨a,xs,rfl,fi.of (S.ex.sub _ _ ha),by rw [es.length];exact h.1,B,ρ,_,P,G,fp,S,es,h.2,q⟩
def Nj(md:List Nat)(te:aS)(g:cU):dD:=λE ρ=>te (dh md ρ) λd=>g d ρ E.nx
theorem nU{tg e:Expr}{te:aS}{g:cU}{pos:Pos}(he:DE Z X e te)(hg:BR Z X md tg g)(hs:swapsWithSole [tg] e pos.line X.env=pure false:=by rfl)(hw:swappedStores [tg] e X.env=pure none:=by rfl)
  (h1:(assignEach [tg] X.env).map (·.2)= [assign tg X.env]:=by rfl):DSt Z X md rn (.Assign [tg] e pos) (Nj md te g):=by
 refine (wY he hg hs hw h1).imp ?_;rintro D σ H ⟨B,ρ,E,⟨G,fp,S⟩,h,M⟩;exact S.ev false h λd hd=>⟨trivial,λv G' H' S' x dv=>⟨B,ρ,d,E.nx,G',fp,S',dv,hd,λaA h' av zC S2=>M.nx _ h' _ _ ⟨G',zC,S2⟩⟩⟩
def kB(g:cU)(tb:dD)(E:gf):List D→DN→Prop
 | [],ρ=>E.nx ρ
 |x::xs,ρ=>g x ρ λaT=>tb {nx:=kB g tb E xs,ct:=kB g tb E xs,bk:=E.nx,rt:=E.rt} aT
def IQ(md:List Nat)(m:Bool)(wi:fT)(g:cU)(tb:dD):dD:=λE ρ=>wi (AS md m ρ) λds=>kB g tb E ds ρ
theorem uZ{D':Ends}{J:It}{ds:List D}{g:cU}{tb:dD}{E:gf}(S:SIx Z B md ρ σ H G fp)(it:rM Z G J ds)(hd:kB g tb E ds ρ)(M:Meets Z B md rn E D'):
  ∃W:Nat→Nat→St→Hp→Prop,(∃m,W 0 m σ H)∧∀i m σ H,W i m σ H→
   (J.stop i H∧D'.nx σ H)∨(J.go i H∧∃N:St→Hp→Prop,(∀av H',N av H'→∃m',m'<m∧W (i+1) m' av H')∧∀x H',J.yld i H x H'→Bj Z md g x σ H' λdE H2=>mY Z md rn tb {D' with nx:=N,ct:=N,bk:=D'.nx} dE H2):=by
 let B1:Bs:={B with Gf:=G}
 have back:∀ρ σ H,SI Z B1 md ρ σ H→SI Z B md ρ σ H:=λρ σ H ⟨G2,zD,S2⟩=>⟨G2,zD,⟨S2.ex,S.fl.trans S2.fl,S2.len,S2.at_,S2.nd,S2.ap,S2.nw⟩⟩;have S1:SIx Z B1 md ρ σ H G fp:=⟨S.ex, .refl _,S.len,S.at_,S.nd,S.ap,S.nw⟩;refine ⟨λi m σ H=>m=ds.length-i∧i≤ds.length∧∃ρ,SI Z B1 md ρ σ H∧kB g tb E (ds.drop i) ρ,⟨_,rfl,b9 _,ρ,⟨G,fp,S1⟩,hd⟩,?_⟩;rintro i m dE H2 ⟨rfl,hi,ck,⟨G2,zD,S2⟩,hf⟩;obtain ⟨go,stop,yld⟩:=it G2 H2 S2.fl S2.ex.sub i
 by_cases b4:i<ds.length
 ·refine .inr ⟨go b4,λav H'=>∃aA,SI Z B1 md aA av H'∧kB g tb E (ds.drop (i+1)) aA,λav H' n=>⟨ds.length-(i+1),by omega,rfl,b4,n⟩,λx H' y=>?_⟩
  obtain ⟨G3,d,x3,Em,dv⟩:=yld x H' b4 y;rw [iZ Em] at hf;refine ⟨B1,ck,d,_,G3,zD,S2.grow x3,dv,hf,λXy h4 dO Ts S4=>?_⟩;exact ⟨B1,Xy,_,⟨G3,Ts,S4⟩,h4,⟨λaA h' av H' s'=>⟨aA,s',h'⟩,M.rt,λaA h' av H' s'=>M.nx _ h' _ _ (back _ _ _ s'),λaA h' av H' s'=>⟨aA,s',h'⟩⟩⟩
 ·have e:ds.drop i= []:=ub (by omega)
  rw [e] at hf;exact .inl ⟨stop (by omega),M.nx _ hf _ _ (back _ _ _ ⟨G2,zD,S2⟩)⟩
variable {tg iter:Expr} {body:List Stmt} {wi:fT} {g:cU} {tb:dD} {pos:Pos}
theorem fk(hc:X.calm=true)(hp:PassesOwn (model X.prog X.w) X.A X.env X.xe)(hi:DI Z X tg iter wi)(hg:BR Z X md tg g)(hb:rJ Z X md rn body tb)
  (hs:∀x,foldedSetIterable iter X.env x=pure x:=by intro _;rfl):DSt Z X md rn (.For tg iter body [] pos) (IQ md false wi g tb):=by
 refine (BC hp hc hi hg hb hs).imp ?_;rintro D σ H ⟨B,ρ,E,⟨G,fp,S⟩,h,M⟩;exact ⟨G,_,_,S.ex.sub,S.D9,h,λds hd J G1 H1 x1 it=>uZ (S.grow x1) it hd M⟩
def Hd(Z:DC)(wi:fT):TI:=λσ H R=>∃(G:Hp)(ρ:DN)(P:List D→Prop),aG G H∧cC Z G σ ρ∧wi ρ P∧∀ds,P ds→∀J G' H',Ext G H G' H'→(∀G2,rM Z G2 J ds)→R J H'
def Jy(Z:DC)(X:Cx)(tg e:Expr)(wi:fT):Prop:=PI X tg e (Hd Z wi)
theorem nV(hc:X.calm=true)(hp:PassesOwn (model X.prog X.w) X.A X.env X.xe)(hi:Jy Z X tg iter wi)(hg:BR Z X md tg g)(hb:rJ Z X md rn body tb)
  (hs:∀x,foldedSetIterable iter X.env x=pure x:=by intro _;rfl):DSt Z X md rn (.For tg iter body [] pos) (IQ md true wi g tb):=by
 refine (BC hp hc hi hg hb hs).imp ?_;rintro D σ H ⟨B,ρ,E,⟨G,fp,S⟩,h,M⟩;exact ⟨H,ρ,_, .refl _,S.D8,h,λds hd J G1 H1 x1 it=>uZ (S.grow (Ext.all S.ex.sub x1)) (it _) hd M⟩
variable {a b e:Expr} {ta te:aS} {t:gW}
theorem mN{p:Pos}(hg:Gl X "range")(hm:X.mg "range"=none)(ha:DA Z X [a] t)(hs:starEach [a] X.env= [(false,eval a X.env)]:=by rfl):Jy Z X tg (.Call (.Name "range" p) [a] [] pos) (IW t):=by
 refine (tI hg hm ha hs).imp ?_;rintro σ H Q ⟨G,ρ,P,s,en,h,q⟩;refine ⟨G,ρ,_,s,en,h,λds hd vs G1 H1 x1 dv=>?_⟩
 split at hd
 ·obtain ⟨_,rfl,a⟩:=dv.ofOne
  exact ⟨_,by rw [a.ofInt],hd.1.1,hd.1.2,q _ hd.2 _ G1 H1 x1 λ_=>pO 0 _⟩
 ·exact hd.elim
theorem zt{p:Pos}(hg:Gl X "range")(hm:X.mg "range"=none)(ha:DA Z X [a,b] t)(hs:starEach [a,b] X.env= [(false,eval a X.env),(false,eval b X.env)]:=by rfl)(jA:starEach [b] X.env= [(false,eval b X.env)]:=by rfl):Jy Z X tg (.Call (.Name "range" p) [a,b] [] pos) (N3 t):=by
 refine (Au hg hm ha hs jA).imp ?_;rintro σ H Q ⟨G,ρ,P,s,en,h,q⟩;refine ⟨G,ρ,_,s,en,h,λds hd vs G1 H1 x1 dv=>?_⟩
 split at hd
 ·obtain ⟨u1,u2,rfl,da,db⟩:=dv.Lw
  exact ⟨_,_,by rw [da.ofInt,db.ofInt],hd.1,q _ hd.2 _ G1 H1 x1 λ_=>pO _ _⟩
 ·exact hd.elim
def A5(c:cN)(tb:dD):dD:=λE ρ=>∃W:Nat→DN→Prop,(∃m,W m ρ)∧∀m ρ,W m ρ→c ρ λb=>if b=true then tb {nx:=λaA=>∃m',m'<m∧W m' aA,ct:=λaA=>∃m',m'<m∧W m' aA,bk:=E.nx,rt:=E.rt} ρ else E.nx ρ
theorem uU{c:Expr}{tc:cN}(hp:PassesOwn (model X.prog X.w) X.A X.env X.xe)(hc:DT Z X c tc)(hb:rJ Z X md rn body tb):DSt Z X md rn (.While c body [] pos) (A5 tc tb):=by
 refine (CK hp hc hb).imp ?_;rintro D σ H ⟨B,ρ,E,S,⟨W,⟨m0,w0⟩,turn⟩,M⟩;refine ⟨λm σ H=>∃ρ,SI Z B md ρ σ H∧W m ρ,⟨m0,ρ,S,w0⟩,?_⟩;rintro m dE H2 ⟨ck,⟨G2,zD,S2⟩,w2⟩;refine S2.N4 (turn m ck w2) λb hb H' S'=>?_;cases b with
 |false=>exact cy (M.nx _ (by simpa using hb) _ _ ⟨G2,zD,S'⟩)
 |true=>
  refine cD ⟨λav H'=>∃aA m',m'<m∧SI Z B md aA av H'∧W m' aA,λav H' ⟨aA,m',h1,h2,h3⟩=>⟨m',h1,aA,h2,h3⟩,B,ck,_,⟨G2,zD,S'⟩,(by simpa using hb),?_⟩
  exact ⟨λaA ⟨m',h1,h2⟩ av H' s'=>⟨aA,m',h1,s',h2⟩,M.rt,M.nx,λaA ⟨m',h1,h2⟩ av H' s'=>⟨aA,m',h1,s',h2⟩⟩
abbrev kn:=DN→(List D→Prop)→Prop
def sV(Z:DC)(n:Nat)(t:kn):TE:=λσ H Q=>∃(G:Hp)(ρ:DN)(P:List D→Prop),aG G H∧cC Z G σ ρ∧t ρ P∧∀ds,P ds→∀v f G' H',Ext G H G' H'→Own Z G' H' n v (.lst ds) f→f.Nodup→(∀b∈f,H b=none∧H' b≠none∧G' b=none)→Q v H'
def DF(Z:DC)(X:Cx)(n:Nat)(e:Expr)(t:kn):Prop:=PE X e (sV Z n t)
theorem Ext.side{p:Addr}{o:HO}{G1 H1:Hp}(x:Ext G H G1 H1)(hp:H1 p=none):Ext G H G1 (upd H1 p o):=
 ⟨x.gg,λb u e=>by rw [aC (aP e (x.sub.free hp))];exact x.sub _ _ e,x.hh.trans (aQ hp _),x.off⟩
theorem oF{p:Addr}{xs:List V}{ds:List D}{G1 H1:Hp}(x:Ext G H G1 H1)(hp:H1 p=none)(dv:aq Z G1 xs ds):
  Own Z G1 (upd H1 p (.lst xs)) 1 (.ref p) (.lst ds) [p]∧([p]:List Addr).Nodup∧∀b∈([p]:List Addr),H b=none∧(upd H1 p (.lst xs)) b≠none∧G1 b=none:=by
 refine ⟨.inl ⟨p,xs,ds,[],rfl,rfl,aw,rfl,dv.own⟩,by simp,λb hb=>?_⟩
 have:b=p:=by simpa using hb
 subst this;exact ⟨x.hh.free hp,(by rw [aw];exact λz=>nomatch z),x.sub.free hp⟩
def N6(t:gW):kn:=λρ P=>t ρ λds=>ds.length≤sizeLine∧P ds
theorem rm{es:List Expr}(h:DA Z X es t):DF Z X 1 (.List es pos) (N6 t):=by
 refine (Bv h).imp ?_;rintro σ H Q ⟨G,ρ,P,s,e,h,q⟩;refine ⟨G,ρ,_,s,e,h,?_⟩;rintro ds ⟨hl,hp⟩ vs G1 H1 x1 bf;refine ⟨by rw [bf.length];exact hl,λp iL=>?_⟩
 obtain ⟨o1,o2,o3⟩:=oF x1 iL bf;exact q _ hp _ _ _ _ (x1.side iL) o1 o2 o3
def Km(wi:fT)(g:cU)(tt:cN)(te:aS)(src:List (Option Nat)):kn:=λρ P=>wi ρ λds=>lcW g tt te ds (tV src ρ) [] λ_ out=>P out
theorem yt{src:List (Option Nat)}{tt:cN}:∀σ H Q,sV Z 1 (Km wi g tt te src) σ H Q→H0 (mX Z wi) (kH Z g) (liftT Z tt) (cO Z te) src σ H Q:=by
 rintro σ H Q ⟨G,ρ,P,s,en,h,q⟩;refine ⟨G,ρ,_,s,en,h,λds hd J G1 H1 x1 it Ad hA=>?_⟩;refine ⟨λi m dE H2=>m=ds.length-i∧i≤ds.length∧∃ck acc,CS Z G1 H1 Ad ck acc dE H2∧lcW g tt te (ds.drop i) ck acc λ_ out=>P out,⟨_,rfl,b9 _,_,[], .begin x1.sub hA ((en.mono x1.gg).src src),hd⟩,?_⟩;rintro i m dE H2 ⟨rfl,hi,ck,acc,c,hl⟩
 by_cases b4:i<ds.length
 ·obtain ⟨go,turn⟩:=vd hA G1 it i ck acc dE H2 c (λ_ s=>s) b4 hl
  exact .inr ⟨go,_,λav H' n=>⟨ds.length-(i+1),by omega,rfl,b4,n⟩,turn⟩
 ·have e:ds.drop i= []:=ub (by omega)
  rw [e] at hl;obtain ⟨G2,ys,s1,s2,s3,off,gA,jz,bf,en⟩:=c;refine .inl ⟨(it G2 H2 s1 s2 i).2.1 (by omega),q _ hl (.ref Ad) [Ad] G2 H2 ⟨x1.gg.trans s1,s2,x1.hh.trans s3,λb hb hg=>off b (dq x1.hh hb) (x1.off b hb hg)⟩ (.inl ⟨Ad,ys,acc,[],rfl,rfl,jz,rfl,bf.own⟩) (by simp) λb hb=>?_⟩
  have:b=Ad:=by simpa using hb
  subst this;exact ⟨x1.hh.free hA,(by rw [jz];exact λz=>nomatch z),gA⟩
variable {elt:Expr} {ifs:List Expr} {scope:Scope} {NC:List Str} {src:List (Option Nat)} {tt:cN}
def DK(md:List Nat)(i:Nat)(t:kn):dD:=λE ρ=>t (dh md ρ) λds=>E.nx (ρ.set i (some (.lst ds)))
theorem pU{n i:Nat}{t:kn}{D':Ends}{E:gf}(hm:md.getD i 0=n)(S:SIx Z B md ρ σ H G fp)(h:t (dh md ρ) λds=>E.nx (ρ.set i (some (.lst ds))))(M:Meets Z B md rn E D'):sV Z n t σ H λv H'=>D'.nx (σ.set i (some v)) H':=by
 refine ⟨G,_,_,S.ex.sub,S.D9,h,λds hd v f G' H' x o nd nw=>?_⟩;refine M.nx _ hd _ _ ⟨G',_,(S.grow x).FH hm o nd (λb hb=>⟨S.ex.hh.free (nw b hb).1,(nw b hb).2⟩) λb hb j _ hj=>(S.nw j b hj).2.1 (nw b hb).1⟩
theorem rz(i:Nat){n:Nat}{x:Str}{pos':Pos}{t:kn}(hN:X.N.Nodup)(he:DF Z X n e t)(hm:md.getD i 0=n:=by rfl)(hi:X.N[i]? =some x:=by rfl)(hx:Loc X.env.scope x:=by first|exact Or.inl rfl|exact Or.inr rfl)(hs:swapsWith e (some (.Name x pos')) pos.line X.env=pure false:=by rfl)
  (hf:X.fn x=true∨X.env.scope.names.lookup x=some .local:=by first|exact .inl rfl|exact .inr rfl|assumption):DSt Z X md rn (.Assign [.Name x pos'] e pos) (DK md i t):=by
 refine (oK hN hi hx he hs hf).imp ?_;rintro D σ H ⟨B,ρ,E,⟨G,fp,S⟩,h,M⟩;exact pU hm S h M
theorem uR(i:Nat){x:Str}{px f6:Pos}(hc:X.calm=true)(hN:X.N.Nodup)(c:bU X scope)(dF:cF scope X.N src NC)(hi:DI Z X tg iter wi)
  (hg:∀ex s H,DG Z (b0 X scope NC ex s H) tg g) (ht:∀ex s H,uk Z (b0 X scope NC ex s H) ifs tt) (he:∀ex s H,DE Z (b0 X scope NC ex s H) elt te)
  (jB:swapsWith (.ListComp elt [⟨tg,iter,ifs,0⟩] scope pos) (some (.Name x px)) f6.line X.env=pure true:=by rfl) (hm:md.getD i 0=1:=by rfl) (kD:X.N[i]? =some x:=by rfl) (hx:Loc X.env.scope x:=by first|exact Or.inl rfl|exact Or.inr rfl)
  (hf:X.fn x=true∨X.env.scope.names.lookup x=some .local:=by first|exact .inl rfl|exact .inr rfl|assumption)
  (hs:∀x,foldedSetIterable iter X.env x=pure x:=by intro _;rfl):DSt Z X md rn (.Assign [.Name x px] (.ListComp elt [⟨tg,iter,ifs,0⟩] scope pos) f6) (DK md i (Km wi g tt te src)):=by
 refine (vz hc hN kD hx c dF hi hg ht he jB hf hs).imp ?_;rintro D σ H ⟨B,ρ,E,⟨G,fp,S⟩,h,M⟩;exact yt σ H _ (pU hm S h M)
end
section
variable {Z:DC} {X:Cx} {B:Bs} {md:List Nat} {rn:Nat} {ρ:DN} {σ:St} {H G:Hp} {fp:Nat→List Addr} {a e k o:Expr} {ta te tk tp:aS} {pos apos aR p2:Pos}
theorem SIx.mut{i:Nat}{v:V}{d':D}{b:Addr}{c:HO}(S:SIx Z B md ρ σ H G fp)(hi:σ[i]? =some (some v))(hb:b∈fp i)(o:Own Z G (upd H b c) (md.getD i 0) v d' (fp i)):SIx Z B md (ρ.set i (some d')) σ (upd H b c) G fp where
 ex:=by
  obtain ⟨h1,h2,h3⟩:=S.nw i b hb;exact ⟨S.ex.gg,λx u e=>by rw [aC (aP e h3)];exact S.ex.sub _ _ e,λx u e=>by rw [aC (aP e h1)];exact S.ex.hh _ _ e,S.ex.off⟩
 fl:=S.fl
 len:=by rw [j6];exact S.len
 at_:=λj w h=>by
  by_cases z:i=j
  ·subst z
   by_cases hl:i<ρ.length
   ·rw [ph hl] at h
    cases h;exact ⟨v,hi,o⟩
   ·rw [BO (mG hl),j3 (mG hl)] at h;cases h
  ·rw [vH z] at h
   obtain ⟨u,hu,ow⟩:=S.at_ j w h;exact ⟨u,hu,ow.keep (.refl _) λx hx=>aC λq=>S.ap i j b z hb (by rw [←q];exact hx)⟩
 nd:=S.nd
 ap:=S.ap
 nw:=λj x hx=>by
  obtain ⟨h1,h2,h3⟩:=S.nw j x hx;refine ⟨h1,?_,h3⟩
  by_cases z:x=b
  ·rw [z,aw];exact λq=>nomatch q
  ·rw [aC z];exact h2
theorem SIx.one{i:Nat}{d:D}(S:SIx Z B md ρ σ H G fp)(hm:md.getD i 0=1)(h:ρ[i]? =some (some d)):∃l xs ds,d= .lst ds∧σ[i]? =some (some (.ref l))∧H l=some (.lst xs)∧aq Z G xs ds∧
  ∀nz nT,aq Z G nz nT→SIx Z B md (ρ.set i (some (.lst nT))) σ (upd H l (.lst nz)) G fp:=by
 obtain ⟨v,hv,o⟩:=S.at_ i d h;rw [hm] at o;obtain ⟨l,xs,ds,n5,rfl,rfl,hl,hf,ol⟩:=o.one;obtain ⟨dv,rfl⟩:=ol.flat;refine ⟨l,xs,ds,rfl,hv,hl,dv,λnz nT wk=>S.mut hv (by rw [hf];simp) ?_⟩
 rw [hm,hf];exact .inl ⟨l,nz,nT,[],rfl,rfl,aw,rfl,wk.own⟩
theorem ty_list{K:PySem.W.Frag}{l:Addr}{xs:List V}(h:H l=some (.lst xs)):Ig K "list" (.ref l) H:= .inl ⟨rfl,_,cc.of h⟩
def Ni(md:List Nat)(m:Bool)(i:Nat)(te:aS):dD:=λE ρ=>∃ds,ρ[i]? =some (some (.lst ds))∧te (AS md m ρ) λd=>nY m d∧ds.length<sizeLine∧E.nx (ρ.set i (some (.lst (ds++ [d]))))
theorem Ba(m:Bool)(i:Nat){x:Str}{px:Pos}(he:DE Z X e te)(hm:md.getD i 0=1:=by rfl)(hi:X.N[i]? =some x:=by rfl)(hv:qM X.env.scope x:=by first|exact Or.inl rfl|exact Or.inr (Or.inl rfl) |exact Or.inr (Or.inr rfl))(hd:(x==("__debug__":Str))=false:=by decide)(fm:(x==("__classdict__":Str))=false:=by decide)
  (df:attributeBase (.Name x px) "append" X.env (eval (.Name x px) X.env)=eval (.Name x px) X.env:=by rfl)
  (g5:((backTo aR (starEach [e] X.env)).all (λx=>!x.1)&&(backToKw aR (keywordEach [] X.env)).all (λx=>x.1.isSome)&&decide (([e]:List Expr).length+([]:List Keyword).length+(if ([]:List Keyword).isEmpty then 0 else 1)<30))=true:=by rfl)
  (cG:(apos.endLine==aR.line)=true:=by rfl) (hs:starEach [e] X.env=(false,eval e X.env)::starEach [] X.env:=by rfl) (dg:(backTo aR (starEach [] X.env)).any (·.1)=false:=by rfl)
  (jB:swapsWith (.Call (.Attribute (.Name x px) "append" apos) [e] [] aR) none pos.line X.env=pure false:=by rfl):
  DSt Z X md rn (.Expr (.Call (.Attribute (.Name x px) "append" apos) [e] [] aR) pos) (Ni md m i te):=by
 refine (oJ (tH PySem.F.plainAttrs_list PySem.F.slot_list_append PySem.F.type_list_append mZ (pv i hi hv hd fm) (dj he gL hs) df g5 cG hs dg) jB).imp ?_;rintro D σ H ⟨B,ρ,E,⟨G,fp,S⟩,⟨ds,h1,h⟩,M⟩;obtain ⟨l,xs,_,_,e2,e3,_⟩:=S.one hm h1;refine ⟨_,e2,ty_list e3,S.ev m h λd hd=>⟨hd.1,λv G' H' S' x dv=>?_⟩⟩;obtain ⟨_,h2,h3⟩:=hd;obtain ⟨l',nz,nT,e1,ij,qP,bf,put⟩:=S'.one hm h1;cases e1;rw [e2] at ij;cases ij;exact ⟨l,nz,v,rfl,rfl,qP,by rw [bf.length];exact h2,M.nx _ h3 _ _ ⟨G',fp,put _ _ (bf.snoc dv)⟩⟩
theorem aq.ins{vs:List V}{ds:List D}{v:V}{d:D}(n:Nat)(h:aq Z G vs ds)(dv:Dv Z G v d):aq Z G (Wb.ins vs n v) (Wb.ins ds n d):=(h.take n).append (.cons dv (h.drop n))
def Np(md:List Nat)(m:Bool)(i:Nat)(tk te:aS):dD:=λE ρ=>∃ds,ρ[i]? =some (some (.lst ds))∧tk ρ λkk=>∃k,kk= .int k∧te (AS md m ρ) λd=>nY m d∧(0≤k∧k≤ds.length∧ds.length<sizeLine)∧E.nx (ρ.set i (some (.lst (Wb.ins ds k.toNat d))))
theorem GC(m:Bool)(i:Nat){x:Str}{px:Pos}(hk:DE Z X k tk)(he:DE Z X e te)(hm:md.getD i 0=1:=by rfl)(hi:X.N[i]? =some x:=by rfl)(hv:qM X.env.scope x:=by first|exact Or.inl rfl|exact Or.inr (Or.inl rfl) |exact Or.inr (Or.inr rfl))(hd:(x==("__debug__":Str))=false:=by decide)(fm:(x==("__classdict__":Str))=false:=by decide)
  (df:attributeBase (.Name x px) "insert" X.env (eval (.Name x px) X.env)=eval (.Name x px) X.env:=by rfl)
  (g5:((backTo aR (starEach [k,e] X.env)).all (λx=>!x.1)&&(backToKw aR (keywordEach [] X.env)).all (λx=>x.1.isSome)&&decide (([k,e]:List Expr).length+([]:List Keyword).length+(if ([]:List Keyword).isEmpty then 0 else 1)<30))=true:=by rfl)
  (cG:(apos.endLine==aR.line)=true:=by rfl) (hs:starEach [k,e] X.env=(false,eval k X.env)::starEach [e] X.env:=by rfl) (jA:starEach [e] X.env=(false,eval e X.env)::starEach [] X.env:=by rfl) (dg:(backTo aR (starEach [e] X.env)).any (·.1)=false:=by rfl)
  (jB:swapsWith (.Call (.Attribute (.Name x px) "insert" apos) [k,e] [] aR) none pos.line X.env=pure false:=by rfl):
  DSt Z X md rn (.Expr (.Call (.Attribute (.Name x px) "insert" apos) [k,e] [] aR) pos) (Np md m i tk te):=by
 refine (oJ (tH PySem.F.plainAttrs_list PySem.F.slot_list_insert PySem.F.type_list_insert Af (pv i hi hv hd fm) (dj hk (dj he gL jA) hs) df g5 cG hs dg) jB).imp ?_;rintro D σ H ⟨B,ρ,E,⟨G,fp,S⟩,⟨ds,h1,h⟩,M⟩;obtain ⟨l,xs,_,_,e2,e3,_⟩:=S.one hm h1;refine ⟨_,e2,ty_list e3,S.ev true h ?_⟩;rintro _ ⟨k,rfl,h⟩;refine ⟨rfl,λv1 G1 H1 S1 x1 zw=>S1.ev m h λd hd=>⟨hd.1,λv G' H' S' x dv=>?_⟩⟩;cases zw;obtain ⟨_,⟨h2,Tx,Ob⟩,h3⟩:=hd;obtain ⟨l',nz,nT,e1,ij,qP,bf,put⟩:=S'.one hm h1;cases e1;rw [e2] at ij;cases ij;exact ⟨l,nz,k,v,rfl,rfl,qP,h2,by rw [bf.length];exact Tx,by rw [bf.length];exact Ob,M.nx _ h3 _ _ ⟨G',fp,put _ _ (bf.ins _ dv)⟩⟩
theorem Gn{α:Type}{xs:List α}{i:Int}{j n:Nat}{v:α}(hn:xs.length=n)(h:mU n i=some j)(e:xs[j]? =some v):fU xs i=some v:=by unfold fU;rw [hn,h];exact e
def Gx(md:List Nat)(m:Bool)(i:Nat)(tk te:aS):dD:=λE ρ=>te (AS md m ρ) λd=>nY m d∧∃ds,ρ[i]? =some (some (.lst ds))∧tk ρ λkk=>∃k j,kk= .int k∧mU ds.length k=some j∧E.nx (ρ.set i (some (.lst (ds.set j d))))
theorem uS(m:Bool)(i:Nat){x:Str}{px ps:Pos}(hk:DE Z X k tk)(he:DE Z X e te)(hm:md.getD i 0=1:=by rfl)(hi:X.N[i]? =some x:=by rfl)(hv:qM X.env.scope x:=by first|exact Or.inl rfl|exact Or.inr (Or.inl rfl) |exact Or.inr (Or.inr rfl))(hd:(x==("__debug__":Str))=false:=by decide)(fm:(x==("__classdict__":Str))=false:=by decide)
  (ha:∀v,assign (.Subscript (.Name x px) k ps) X.env v=(do
   let ov ←holding [v] (eval (.Name x px) X.env)
   let iv ←holding [v,ov] (eval k X.env)
   standAt ps
   holding [v,ov,iv] (setItem ov iv v)
   release [v,ov,iv] []):=by intro _;rfl)
  (hs:swapsWithSole [.Subscript (.Name x px) k ps] e pos.line X.env=pure false:=by rfl) (hw:swappedStores [.Subscript (.Name x px) k ps] e X.env=pure none:=by rfl)
  (h1:(assignEach [.Subscript (.Name x px) k ps] X.env).map (·.2)= [assign (.Subscript (.Name x px) k ps) X.env]:=by rfl):DSt Z X md rn (.Assign [.Subscript (.Name x px) k ps] e pos) (Gx md m i tk te):=by
 refine (wY he (By (pv i hi hv hd fm) hk set_list ha) hs hw h1).imp ?_;rintro D σ H ⟨B,ρ,E,⟨G,fp,S⟩,h,M⟩;refine S.ev m h λd hd=>⟨hd.1,λv G' H' S' x dv=>?_⟩;obtain ⟨_,ds,h1,h⟩:=hd;obtain ⟨l,xs,_,_,e2,e3,_⟩:=S'.one hm h1;refine ⟨_,e2,S'.ev true h ?_⟩;rintro _ ⟨k,j,rfl,hj,h3⟩;refine ⟨rfl,λv1 G1 H1 S1 x1 zw=>?_⟩;cases zw;obtain ⟨l',nz,nT,e1,ij,qP,bf,put⟩:=S1.one hm h1;cases e1;rw [e2] at ij;cases ij;exact ⟨l,nz,k,j,rfl,rfl,qP,by rw [bf.length];exact hj,M.nx _ h3 _ _ ⟨G1,fp,put _ _ (bf.set (dv.mono x1.gg) j)⟩⟩
def Ny(md:List Nat)(i j:Nat):dD:=λE ρ=>∃ds d,ρ[j]? =some (some (.lst (ds++ [d])))∧E.nx ((ρ.set j (some (.lst ds))).set i (some d))
theorem wj(i j:Nat){x y:Str}{px py:Pos}(hN:X.N.Nodup)(hm:md.getD i 0=0:=by rfl)(K5:md.getD j 0=1:=by rfl)(hi:X.N[i]? =some x:=by rfl)(hx:Loc X.env.scope x:=by first|exact Or.inl rfl|exact Or.inr rfl)
  (hj:X.N[j]? =some y:=by rfl) (hv:qM X.env.scope y:=by first|exact Or.inl rfl|exact Or.inr (Or.inl rfl) |exact Or.inr (Or.inr rfl)) (hd:(y==("__debug__":Str))=false:=by decide) (fm:(y==("__classdict__":Str))=false:=by decide)
  (df:attributeBase (.Name y py) "pop" X.env (eval (.Name y py) X.env)=eval (.Name y py) X.env:=by rfl) (cG:(apos.endLine==aR.line)=true:=by rfl)
  (hs:swapsWith (.Call (.Attribute (.Name y py) "pop" apos) [] [] aR) (some (.Name x px)) pos.line X.env=pure false:=by rfl)
  (hf:X.fn x=true∨X.env.scope.names.lookup x=some .local:=by first|exact .inl rfl|exact .inr rfl|assumption):DSt Z X md rn (.Assign [.Name x px] (.Call (.Attribute (.Name y py) "pop" apos) [] [] aR) pos) (Ny md i j):=by
 refine (oK hN hi hx (Hy PySem.F.plainAttrs_list PySem.F.slot_list_pop PySem.F.type_list_pop Hf (pv j hj hv hd fm) df cG) hs hf).imp ?_;rintro D σ H ⟨B,ρ,E,⟨G,fp,S⟩,⟨ds,d,h1,h⟩,M⟩;obtain ⟨l,xs,nT,e1,e2,e3,bf,put⟩:=S.one K5 h1;cases e1;have hl:xs.length=ds.length+1:=by rw [bf.length];simp
 obtain ⟨v,La,dv⟩:=bf.get (i:=xs.length-1) (d:=d) (by rw [hl];simp)
 refine ⟨_,e2,ty_list e3,l,xs,v,rfl,rfl,e3,La,M.nx _ h _ _ ⟨G,_,(put xs.dropLast ds ?_).yO hm dv⟩⟩
 have:=bf.take ds.length
 rw [List.take_left'] at this
 ·rw [List.dropLast_eq_take,hl];exact this
 ·rfl
end
structure Mn (mg:Str→Option Value):Prop where
 len:mg "len"=none
 range:mg "range"=none
 max:mg "max"=none
 min:mg "min"=none
 enumerate:mg "enumerate"=none
 zip:mg "zip"=none
 sorted:mg "sorted"=none
 all:mg "all"=none
 isinstance:mg "isinstance"=none
 int:mg "int"=none
 bool:mg "bool"=none
 list:mg "list"=none
 tuple:mg "tuple"=none
 sum:mg "sum"=none
 reversed:mg "reversed"=none
theorem Dr:bootBuiltins "bool"=some (.type "bool"):=by decide+kernel
theorem Gq:bootBuiltins "int"=some (.type "int"):=by decide+kernel
theorem kv:bootBuiltins "list"=some (.type "list"):=by decide+kernel
theorem gX:bootBuiltins "sorted"=some (.builtin "sorted"):=by decide+kernel
theorem aN:bootBuiltins "len"=some (.builtin "len"):=by decide+kernel
section
variable {P:Program} {w:World} {K:PySem.W.Frag} {mg:Str→Option Value} {base:Heap} {Z:DC}
def rG(N:List Str)(ds:List D):DN:=ds.map some++List.replicate (N.length-ds.length) none
def kI(Z:DC)(n:Nat)(sd:cZ):Sp:=λvs H Q _=>∃(G:Hp)(ds:List D)(P:D→Prop),aG G H∧aq Z G vs ds∧sd ds P∧∀d,P d→∀v f G' H',Ext G H G' H'→Own Z G' H' n v d f→f.Nodup→(∀b∈f,H b=none∧H' b≠none∧G' b=none)→Q v H'
theorem Own.pure{n:Nat}{v:V}{d:D}{f:List Addr}{G H G' H':Hp}(x:Ext G H G' H')(o:Own Z G' H' n v d f)(nw:∀b∈f,H b=none∧H' b≠none∧G' b=none):∃G2,Ext G H G2 H'∧Dv Z G2 v d:=by
 refine ⟨plus G' H' λb=>b∈f,⟨x.gg.trans (e9 x.sub),fR x.sub,x.hh,λb hb hg=>?_⟩,o.dv (e9 x.sub) λb hb u e=>by rw [jh hb];exact e⟩
 rw [gS (λz=>hb (nw b z).1)];exact x.off b hb hg
theorem AJ{n:Nat}{sd:cZ}:∀vs H Q E,aV Z sd vs H Q E→kI Z n sd vs H Q E:=by
 rintro vs H Q E ⟨G,ds,P,s,dv,h,q⟩;exact ⟨G,ds,P,s,dv,h,λd hd v f G' H' x o nd nw=>let ⟨G2,x2,wo⟩:=o.pure x nw;q d hd v G2 H' x2 wo⟩
theorem lJ(rn:Nat){x qual:Str}{st:Stmt}{f:Addr}{fd:FuncData}{N ps:List Str}{k:Nat}{sd:cZ}(F:um K x qual st f fd)(S:aH N ps (au st))(md:List Nat)(K4:∀i,i<ps.length→md.getD i 0=0)(len:∀ds P,sd ds P→ds.length=ps.length)
  (mS:∀(bz:Value)(A:Around)(outer:List Env)(s:Shared)(H:Hp)(E:XK)(ds:List D)(R:D→Prop),cv k (A.deeper (envOfC qual (au st) s.heap.objs.size f bz))→sd ds R→
   ∃t,rJ Z (qr cE P w K mg base N qual (au st) f bz A outer s H E).iN md rn (eS st) t∧t {nx:=λ_=>rn=0∧R .aZ,rt:=R} (rG N ds)):FnOk P w K mg base cE (k+1) f fd ps (kI Z rn sd):=by
 refine F.ok S (λvs H Q E h=>?_) (λbz A outer s H vs Q E hr h=>?_)
 ·obtain ⟨G,ds,R,s,dv,h,q⟩:=h
  rw [dv.length];exact len _ _ h
 obtain ⟨G,ds,R,s0,dv,h,q⟩:=h;have OO:=q;obtain ⟨t,ht,hq⟩:=mS bz A outer s H E ds R hr h;have hl:=len _ _ h;refine ⟨_,ht,⟨G,H,G⟩,_,_,⟨G,λ_=> [],?_⟩,hq,⟨λρ OV av H' ⟨G',fp,S'⟩=>q _ OV.2 _ [] G' H' S'.ex (by rw [OV.1];exact ⟨.aZ,rfl⟩) j8 (λb hb=>by cases hb),OO,λ_ z=>z.elim,λ_ z=>z.elim⟩⟩
 refine ⟨.refl s0, .refl _,by unfold rG start;simp [dv.length],λi d hi=>?_,λ_=>j8,(λ_ _ _ _ z=>by cases z),(λ_ _ z=>by cases z)⟩
 unfold rG at hi
 have OA:i<ds.length:=by
  apply Classical.byContradiction;intro z;rw [fA (by simpa using mG z),BP] at hi
  split at hi<;>cases hi
 rw [dH (by simpa using OA),eJ] at hi
 have lT:ds[i]? =some d:=by
  cases z:ds[i]? with
  |none=>rw [z] at hi;cases hi
  |some d'=>rw [z] at hi;cases hi;rfl
 obtain ⟨v,hv,wk⟩:=dv.get lT;refine ⟨v,?_,by rw [K4 i (by omega)];exact ⟨wk,rfl⟩⟩
 unfold start;rw [dH (by simpa [dv.length] using OA),eJ,hv];rfl
theorem bo{x qual:Str}{st:Stmt}{f:Addr}{fd:FuncData}{N ps:List Str}{k:Nat}{sd:cZ}(F:um K x qual st f fd)(S:aH N ps (au st))(md:List Nat)(K4:∀i,i<ps.length→md.getD i 0=0)(len:∀ds P,sd ds P→ds.length=ps.length)
  (mS:∀(bz:Value)(A:Around)(outer:List Env)(s:Shared)(H:Hp)(E:XK)(ds:List D)(R:D→Prop),cv k (A.deeper (envOfC qual (au st) s.heap.objs.size f bz))→sd ds R→
   ∃t,rJ Z (qr cE P w K mg base N qual (au st) f bz A outer s H E).iN md 0 (eS st) t∧t {nx:=λ_=>0=0∧R .aZ,rt:=R} (rG N ds)):FnOk P w K mg base cE (k+1) f fd ps (aV Z sd):=
 (lJ 0 F S md K4 len λbz A outer s H E ds R hr h=>let ⟨t,a,b⟩:=mS bz A outer s H E ds R hr h;⟨t,a,b⟩).imp AJ
end
section
variable {Z:DC} {X:Cx} {a b c e o:Expr} {ta tb te:aS} {t:gW} {es:List Expr} {pos apos:Pos}
def Nv(ta:aS):aS:=λρ P=>ta ρ λd=>match d with
 | .int i=>P (.int (-i))
 |_=>False
theorem A7(ha:DE Z X a ta):DE Z X (.UnaryOp .USub a pos) (Nv ta):=by
 refine (LI Ih ha).imp ?_;rintro σ H Q ⟨G,ρ,P,s,en,h,q⟩;refine ⟨G,ρ,_,s,en,h,λd hd v G1 H1 x1 dv=>?_⟩;cases dv<;>first|exact hd.elim|skip
 exact ⟨_,rfl,q _ hd _ G1 H1 x1 (.int _)⟩
theorem sA{G:Hp}:∀{vs:List V}{ns:List Int},aq Z G vs (ns.map D.int)→vs=ns.map V.int
 |vs,[],h=>by cases h;rfl
 |vs,b::bs,h=>by
  cases h with
  |cons a as=>cases a;rw [sA as];rfl
def vX:cZ:=λds P=>∃ns:List Int,ds= [.lst (ns.map D.int)]∧ns.length<64∧∀ms:List Int,ms.Perm ns→ms.Pairwise (·≤·)→P (.lst (ms.map D.int))
theorem pI:dB X (.builtin "sorted") (jD Z vX):=by
 refine uu.imp ?_;rintro xs H Q ⟨G,ds,P,s,dv,⟨ns,rfl,hl,hp⟩,q⟩;cases dv with
 |cons a as=>
  cases as;cases a with
  |lst h e=>
   refine ⟨_,ns,rfl,cc.of (by rw [←sA e];exact s _ _ h),hl,λp ms hn h1 h2=>?_⟩
   exact q _ (hp ms h1 h2) _ _ _ (.new s hn) (.lst aw (.ints ms))
def pairD(k:Nat×Nat):D:= .tup [.int (k.1:Nat), .int (k.2:Nat)]
theorem uV{G:Hp}:∀{vs:List V}{ns:List (Nat×Nat)},aq Z G vs (ns.map pairD)→∃L:List (Addr×(Nat×Nat)),vs=L.map (λe=>V.ref e.1)∧L.map (·.2)=ns∧BS G L
 |vs,[],h=>by cases h;exact ⟨[],rfl,rfl,λp hp=>by cases hp⟩
 |vs,n::ns,h=>by
  cases h with
  |cons a as=>
   obtain ⟨L,h1,h2,h3⟩:=uV as;unfold pairD at a;cases a with
   | @tup p xs ds hp e=>
    refine ⟨(p,n)::L,by rw [h1];rfl,by rw [←h2];rfl,λq hq=>?_⟩
    rcases bQ.mp hq with rfl|hq
    ·have:xs=Aq n:=by
      cases e with
      |cons a1 a2=>
       cases a2 with
       |cons b1 b2=>cases a1;cases b1;cases b2;rfl
     rw [←this];exact hp
    ·exact h3 q hq
theorem BS.dv{G:Hp}:∀{L:List (Addr×(Nat×Nat))},BS G L→aq Z G (L.map λe=>V.ref e.1) ((L.map (·.2)).map pairD)
 | [],_=> .nil
 |x::L,h=> .cons (.tup (h x (bP ..)) (.cons (.int _) (.cons (.int _) .nil))) (BS.dv λp hp=>h p (bV _ hp))
def Gv(ta tb:aS):aS:=λρ P=>ta ρ λd=>∃l,d= .lst l∧tb ρ λy=>eO y=true∧l.all eO=true∧∃(j:Nat)(z:D),l[j]? =some z∧iw z y=true∧(∀(m:Nat) z,m<j→l[m]? =some z→iw z y=false)∧P (.int (j:Nat))
theorem lE{aR:Pos}(ho:DE Z X o ta)(he:DE Z X e tb)
  (df:attributeBase o "index" X.env (eval o X.env)=eval o X.env:=by rfl)
  (g5:((backTo aR (starEach [e] X.env)).all (λx=>!x.1)&&(backToKw aR (keywordEach [] X.env)).all (λx=>x.1.isSome)&&decide (([e]:List Expr).length+([]:List Keyword).length+(if ([]:List Keyword).isEmpty then 0 else 1)<30))=true:=by rfl)
  (cG:(apos.endLine==aR.line)=true:=by rfl) (hs:starEach [e] X.env=(false,eval e X.env)::starEach [] X.env:=by rfl) (dg:(backTo aR (starEach [] X.env)).any (·.1)=false:=by rfl):
  DE Z X (.Call (.Attribute o "index" apos) [e] [] aR) (Gv ta tb):=by
 refine (tH PySem.F.plainAttrs_list PySem.F.slot_list_index PySem.F.type_list_index Cv ho (dj he gL hs) df g5 cG hs dg).imp ?_;rintro σ H Q ⟨G,ρ,P,s,en,h,q⟩;refine ⟨G,ρ,_,s,en,h,?_⟩;rintro _ ⟨l,rfl,hd⟩ v G1 H1 x1 dv;cases dv with
 | @lst p xs ds hp e=>
  refine ⟨ty_list (x1.sub _ _ hp),G1,ρ,_,x1.sub,en.mono x1.gg,hd,λy hy u G2 H2 x2 du=>?_⟩;obtain ⟨h1,h2,j,z,h3,h4,h5,h6⟩:=hy;have e2:=e.mono x2.gg;obtain ⟨w,hw,dw⟩:=e2.get h3;refine ⟨p,xs,u,j,w,rfl,rfl,x2.hh _ _ (x1.sub _ _ hp),by rw [nZ du];exact h1,by rw [iy e2];exact h2,hw,by rw [wu dw du];exact h4,λm z' hm hz=>?_,q _ h6 _ G2 H2 (x1.trans x2) (.int _)⟩
  obtain ⟨d',lT,wk⟩:=e2.Bg hz;rw [wu wk du];exact h5 m d' hm lT
end
structure AZ (Z:DC):Prop where
 cl:rH Z.K Z.C
 nR:ju Z.K Z.C "rows"
section
variable {Z:DC} {X:Cx} {a b c e o:Expr} {ta tb te:aS} {t:gW} {es:List Expr} {pos apos:Pos}
def Kb(ta:aS):aS:=λρ P=>ta ρ λd=>∃w,d= .dN w∧P (aM w)
theorem su(T:AZ Z)(ha:DE Z X o ta)(eK:X.K=Z.K:=by rfl)(hb:attributeBase o "rows" X.env (eval o X.env)=eval o X.env:=by rfl):DE Z X (.Attribute o "rows" apos) (Kb ta):=by
 refine (HA ha hb).imp ?_;rintro σ H Q ⟨G,ρ,P,s,en,h,q⟩;refine ⟨G,ρ,_,s,en,h,?_⟩;rintro _ ⟨w,rfl,hd⟩ v G1 H1 x1 dv;cases dv with
 | @dN p dx R w hp hr g h1 h2=>exact ⟨p,Z.C,dx,_, .ref R,rfl,x1.sub _ _ hp,by rw [eK];exact T.cl,by rw [eK];exact T.nR,rfl,q _ hd _ G1 H1 x1 hr⟩
def zr(sd:cZ)(ta:aS)(t:gW):aS:=λρ P=>ta ρ λd=>∃w,d= .dN w∧t ρ λds=>sd (.dN w::ds) P
theorem ve{m:Str}{sd:cZ}(hm:([("rows",V.ref 0)]:List (Str×V)).lookup m=none):∀σ H Q,cO Z (zr sd ta t) σ H Q→AM Z.C m (aV Z sd) [] E0 (cO Z ta) (z8 Z t) σ H Q:=by
 rintro σ H Q ⟨G,ρ,P,s,en,h,q⟩;refine ⟨G,ρ,_,s,en,h,?_⟩;rintro _ ⟨w,rfl,hd⟩ v G1 H1 x1 dv;have Td:=dv;cases dv with
 | @dN p dx R w hp hr g h1 h2=>
  refine ⟨p,dx,_,rfl,x1.sub _ _ hp,?_,G1,ρ,_,x1.sub,en.mono x1.gg,hd,λds Ca vs G2 H2 x2 bf=>?_⟩
  ·have hz:(m==("rows":Str))=false:=by
    cases z:(m==("rows":Str)) with
    |false=>rfl
    |true=>simp [List.lookup,z] at hm
   simp [List.lookup,hz]
  ·show aV Z sd (V.ref p::(vs++ [])) H2 Q E0
   rw [j5];exact ⟨G2,_,P,x2.sub, .cons (Td.mono x2.gg) bf,Ca,λd hd v G3 H3 x3 Te=>q d hd v G3 H3 ((x1.trans x2).trans x3) Te⟩
variable {sd:cZ} {k:Nat} {f:Addr} {fd:FuncData} {ps:List Str} {m:Str}
theorem DU{pl:Sem Bool}(T:AZ Z)(ho:DE Z X o ta)(hm:Meth Z.K Z.C m f)(F:FnOk X.prog X.w X.K X.mg X.base cE k f fd ps (aV Z sd))(hr:cv k X.A)(hb:Binds X.K fd ps [])(ha:DA Z X (e::es) t)(eK:X.K=Z.K:=by rfl)
  (zQ:([("rows",V.ref 0)]:List (Str×V)).lookup m=none:=by decide) (i7:starEach (e::es) X.env=(false,eval e X.env)::starEach es X.env:=by rfl) (fD:(backTo pos (starEach es X.env)).any (·.1)=false:=by rfl)
  (ht:eval (.Call (.Attribute o m apos) (e::es) [] pos) X.env=(do
   let ov ←eval o X.env
   standAt apos.atName
   let (f,first) ←holding [ov] (getMethod ov m pl)
   callWith pos f first (backTo pos (starEach (e::es) X.env)) (backToKw pos (keywordEach [] X.env))):=by rfl):DE Z X (.Call (.Attribute o m apos) (e::es) [] pos) (zr sd ta t):=
 (Fe (pl:=pl) ho (by rw [eK];exact T.cl) (by rw [eK];exact hm) F hr hb .nil wW ha i7 fD ht).imp (ve zQ)
theorem uN{pl:Sem Bool}(T:AZ Z)(ho:DE Z X o ta)(hm:Meth Z.K Z.C m f)(F:FnOk X.prog X.w X.K X.mg X.base cE k f fd ps (aV Z sd))(hr:cv k X.A)(hb:Binds X.K fd ps [])(eK:X.K=Z.K:=by rfl)
  (zQ:([("rows",V.ref 0)]:List (Str×V)).lookup m=none:=by decide)
  (ht:eval (.Call (.Attribute o m apos) [] [] pos) X.env=(do
   let ov ←eval o X.env
   standAt apos.atName
   let (f,first) ←holding [ov] (getMethod ov m pl)
   callWith pos f first (backTo pos (starEach [] X.env)) (backToKw pos (keywordEach [] X.env))):=by rfl):DE Z X (.Call (.Attribute o m apos) [] [] pos) (zr sd ta nM):=
 (CG (pl:=pl) ho (by rw [eK];exact T.cl) (by rw [eK];exact hm) F hr hb .nil wW ht).imp λσ H Q h=>by
  obtain ⟨G,ρ,P,s,en,h,q⟩:=ve zQ σ H Q h;refine ⟨G,ρ,P,s,en,h,λd hd v G1 H1 x1 dv=>?_⟩;obtain ⟨p,dx,fs,h1,h2,h3,G',aA,P',s',XQ,h',q'⟩:=q d hd v G1 H1 x1 dv;exact ⟨p,dx,fs,h1,h2,h3,q' _ h' _ G' _ (.refl s') .nil⟩
def yU(Z:DC):Sp:=λvs H Q _=>∃(p dx:Addr)(v:V)(G:Hp)(w:List (List Nat)),vs= [.ref p,v]∧H p=some (.ins Z.C dx [])∧aG G H∧G p=none∧Dv Z G v (aM w)∧Wb.Good w∧1≤w.length∧w.length≤14∧
 ∀(R:Addr)(G' H':Hp),aG G G'→aG G' H'→(∀b o,H b=some o→b≠p→H' b=some o)→(∀b,H b≠none→G b=none→G' b=none)→H' p=some (.ins Z.C dx [("rows", .ref R)])→Dv Z G' (.ref R) (aM w)→Q .aZ H'
def J5(t:gW):aS:=λρ P=>t ρ λds=>∃w,ds= [aM w]∧Wb.Good w∧1≤w.length∧w.length≤14∧P (.dN w)
theorem DS{x:Str}{p:Pos}(M:Mk Z.K Z.C f)(F:FnOk X.prog X.w X.K X.mg X.base cE k f fd ps (yU Z))(hr:cv (k+1) X.A)(hg:Gl X x)(hm:X.mg x=some (.ref Z.C))(hb:Binds X.K fd ps [])
  (ha:DA Z X (e::es) t) (eK:X.K=Z.K:=by rfl) (kC:(x==("__debug__":Str))=false:=by decide) (he:starEach (e::es) X.env=(false,eval e X.env)::starEach es X.env:=by rfl) (fD:(backTo pos (starEach es X.env)).any (·.1)=false:=by rfl):
  DE Z X (.Call (.Name x p) (e::es) [] pos) (J5 t):=by
 refine (Fd (by rw [eK];exact M) F hr hg hm hb .nil wW ha kC he fD).imp ?_
 rintro σ H Q ⟨G,ρ,P,s,en,h,q⟩;refine ⟨G,ρ,_,s,en,h,?_⟩;rintro _ ⟨w,rfl,g,h1,bw,hp⟩ vs G1 H1 x1 bf p dx hx TV ne;cases bf with
 | @cons v _ _ _ dv bf=>
  cases bf;have Lc:upd H1 dx (.own p) p=none:=by rw [aC (Ne.symm ne)];exact hx
  have sJ:=(aQ TV (.own p)).trans (aQ Lc (.ins Z.C dx []));refine ⟨p,dx,v,G1,w,rfl,aw,x1.sub.trans sJ,x1.sub.free hx,dv,g,h1,bw,λR G2 H2 g1 g2 kp off Ui wo=>⟨rfl,?_⟩⟩;have gp:G2 p=none:=off p (by rw [aw];exact λz=>nomatch z) (x1.sub.free hx)
  refine q _ hp _ (upd G2 p (.ins Z.C dx [("rows", .ref R)])) H2 ⟨(x1.gg.trans g1).trans (aQ gp _),λb o e=>?_,λb o e=>?_,λb hb hg=>?_⟩ (.dN aw (wo.mono (aQ gp _)) g h1 bw)
  ·by_cases z:b=p
   ·subst z;rw [aw] at e;cases e;exact Ui
   ·rw [aC z] at e;exact g2 _ _ e
  ·have e1:=x1.hh _ _ e
   exact kp b o (sJ _ _ e1) (aP e1 hx)
  ·have GJ:=dq x1.hh hb
   have nb:b≠p:=λz=>GJ (by rw [z];exact hx)
   rw [aC nb];exact off b (dq sJ GJ) (x1.off b hb hg)
end
section
variable {Z:DC} {X:Cx} {pos:Pos}
variable {tg iter elt:Expr} {scope:Scope} {NC:List Str} {src:List (Option Nat)} {wi:fT} {g:cU} {tf:kn} {md:List Nat} {rn:Nat}
end
abbrev gP:=inClass
structure zi (Z:DC) (m qual:Str) (st:Stmt) (ps:List Str) where
 f:Addr
 fd:FuncData
 F:um Z.K m qual st f fd
 b:Binds Z.K fd ps []
 m:Meth Z.K Z.C m f
def oT(K:PySem.W.Frag):Sp:=λvs H Q _=>∃(a:Addr)(ns:List Int),vs= [.ref a]∧cc K H a (ns.map V.int)∧ns.length≤63∧∀H',Q (.bl true) H'
def BK:cZ:=λds P=>∃ns:List Int,ds= [.jq ns]∧ns.length≤63∧P (.bl true)
theorem G9{Z:DC}:∀vs H Q E,oT Z.K vs H Q E→aV Z BK vs H Q E:=by
 rintro vs H Q E ⟨a,ns,rfl,hS,hl,q⟩;exact ⟨H,[.jq ns],λd=>d= .bl true, .refl _, .cons (.jq hS hl) .nil,⟨ns,rfl,hl,rfl⟩,λd hd v G' H' x dv=>by subst hd;cases dv;exact q H'⟩
theorem Mg(k:Nat){l:PySem.W.OpenLaw}{q:Program}{loose:List Str}{XP:(Str→Option Value)→Heap→Prop}{YP:World→Heap→Prop}{d:DefRec}{K:Params→PySem.W.Frag}(X3:3*k<150)(hn:l.most=some 63)(zL:d.params.defaults= [])
  (hY:∀(w:World)(h:Heap),YP w h→(K w.params).In h)
  (F:∀(w:World)(mg:Str→Option Value)(fa:Addr)(h:Heap),(K w.params).In h→h.Ns mainGlobals mg→mg d.name=some (.ref fa)→
   ∃fd:FuncData,(∀(s:Shared)(u:Value),BindsTo s fd ⟨[u],[]⟩ [("_law_script",u)])∧∀base:Heap,(K w.params).In base→base.Ns mainGlobals mg→FnOk l.prog w (K w.params) mg base cE k fa fd ["_law_script"] (oT (K w.params))):
  PySem.W.WalkO q loose XP YP l.row.toRowW d [] (λf vs=>PySem.call f vs):=
 L2.F8 (n:=63) (k:=50) (x:="_law_script") (CX:=λ_=>cE) (sp:=λw=>oT (K w.params)) hn (by decide) zL ⟨rfl,by decide,by decide⟩ hY (λw mg fa h a b c=>by
  obtain ⟨fd,h1,h2⟩:=F w mg fa h a b c;exact ⟨fd,h1,λbase x y=>(h2 base x y).mono (by omega)⟩) (λ_ _ a ns hl _ hS=>⟨a,ns,rfl,hS,hl,λ_=>rfl⟩) λ_ _ _ _ _ z=>z
theorem dG{c:Bool}{A B:Prop}(h1:c=true→A)(h2:c=false→B):if c=true then A else B:=by
 cases c with
 |true=>exact cD (h1 rfl)
 |false=>exact cy (h2 rfl)
theorem kF{i:Nat}{tt:cN}{te:aS}{ρ:DN}{α:Type}(enc:α→D)(p:α→Bool)(f:α→D):∀(ys:List α)(aA:DN)(acc:List D)(N:DN→List D→Prop),(∀y∈ys,∀(Y:D→Prop)(Nn:Prop),(p y=true→Y (f y))→(p y=false→Nn)→tt (ρ.set i (some (enc y))) λb=>if b=true then te (ρ.set i (some (enc y))) Y else Nn)→
  (∃o,aA=ρ.set i o)→acc.length+ys.length≤sizeLine→(∀aA,N aA (acc++(ys.filter p).map f))→lcW (rq i) tt te (ys.map enc) aA acc N
 | [],aA,acc,N,_,_,_,h=>by
  show N aA acc;simpa using h aA
 |y::ys,aA,acc,N,hs,⟨o,ho⟩,hz,h=>by
  show tt (aA.set i (some (enc y))) _;rw [ho,List.set_set];rw [dY] at hz;refine hs y (bP ..) _ _ (λhp=>⟨by omega,?_⟩) (λhp=>?_)
  ·refine kF enc p f ys _ (acc++ [f y]) N (λz hz=>hs z (bV _ hz)) ⟨_,rfl⟩ (by simp;omega) λui=>?_
   have:=h ui
   rw [qK,hp] at this;simpa using this
  ·refine kF enc p f ys _ acc N (λz hz=>hs z (bV _ hz)) ⟨_,rfl⟩ (by omega) λui=>?_
   have:=h ui
   rw [qK,hp] at this;simpa using this
theorem jC{i:Nat}{te:aS}{ρ:DN}{α:Type}(enc:α→D)(f:α→D)(ys:List α)(N:DN→List D→Prop)(hs:∀y∈ys,∀(Y:D→Prop),Y (f y)→te (ρ.set i (some (enc y))) Y)(h0:ρ[i]? =some none)(hz:ys.length≤sizeLine)(h:∀aA,N aA (ys.map f)):lcW (rq i) ma te (ys.map enc) ρ [] N:=by
 refine kF (ρ:=ρ) enc (λ_=>true) f ys ρ [] N (λy hy Y Nn h1 _=>?_) ⟨none,?_⟩ (by simpa using hz) λaA=>by rw [List.filter_eq_self.mpr (λ_ _=>rfl),kZ];exact h aA
 ·unfold ma
  dsimp only;rw [if_pos rfl];exact hs y hy Y (h1 rfl)
 ·obtain ⟨hi,e⟩:=fC.mp h0
  rw [←e,List.set_getElem_self]
theorem uY{g:cU}{tb:dD}{E:gf}(I:Nat→DN→Prop):∀(ds:List D)(k:Nat)(ρ:DN),I k ρ→(∀(j:Nat)(d:D)(ρ:DN),ds[j]? =some d→I (k+j) ρ→∀A:DN→Prop,(∀ρ,I (k+j+1) ρ→A ρ)→g d ρ λaT=>tb {nx:=A,ct:=A,bk:=E.nx,rt:=E.rt} aT)→
  (∀ρ,I (k+ds.length) ρ→E.nx ρ)→kB g tb E ds ρ
 | [],k,ρ,h0,hs,he=>he ρ h0
 |d::ds,k,ρ,h0,hs,he=>by
  refine hs 0 d ρ rfl h0 _ λaA h'=>?_
  exact uY I ds (k+1) aA h' (λj d' ck hj h2 A hA=>by
   refine hs (j+1) d' ck (by simpa using hj) (by rw [show k+(j+1)=k+1+j by omega];exact h2) A λMl h3=>hA Ml ?_
   rw [show k+1+j+1=k+(j+1)+1 by omega];exact h3) (λck h2=>he ck (by rw [dY,show k+(ds.length+1)=k+1+ds.length by omega];exact h2))
theorem di{g:cU}{tb:dD}{E:gf}{ds:List D}{ρ:DN}(I:Nat→DN→Prop)(h0:I 0 ρ)(hs:∀(j:Nat)(d:D)(ρ:DN),ds[j]? =some d→I j ρ→∀A:DN→Prop,(∀ρ,I (j+1) ρ→A ρ)→g d ρ λaT=>tb {nx:=A,ct:=A,bk:=E.nx,rt:=E.rt} aT)
  (he:∀ρ,I ds.length ρ→E.nx ρ):kB g tb E ds ρ:=uY I ds 0 ρ h0 (λj d ρ hj h A hA=>hs j d ρ hj (by simpa using h) A λaA h'=>hA aA (by simpa using h')) (λρ h=>he ρ (by simpa using h))
theorem yc{g:cU}{tb:dD}{E:gf}{lo:Int}{n:Nat}{ρ:DN}(I:Nat→DN→Prop)(h0:I 0 ρ)(hs:∀(j:Nat)(ρ:DN),j<n→I j ρ→∀A:DN→Prop,(∀ρ,I (j+1) ρ→A ρ)→g (.int (lo+j)) ρ λaT=>tb {nx:=A,ct:=A,bk:=E.nx,rt:=E.rt} aT)
  (he:∀ρ,I n ρ→E.nx ρ):kB g tb E (eB lo n) ρ:=by
 have l:(eB lo n).length=n:=by unfold eB;simp
 refine di I h0 (λj d ρ hj h A hA=>?_) (λρ h=>he ρ (by rw [l] at h;exact h))
 have b4:j<n:=by
  have:=(fC.mp hj).1
  rw [l] at this;exact this
 rw [qA b4] at hj;cases hj;exact hs j ρ b4 h A hA
theorem t4{c:cN}{tb:dD}{E:gf}{ρ:DN}(I:Nat→DN→Prop)(m0:Nat)(h0:I m0 ρ)(hs:∀m ρ,I m ρ→c ρ λb=>if b=true then tb {nx:=λaA=>∃m',m'<m∧I m' aA,ct:=λaA=>∃m',m'<m∧I m' aA,bk:=E.nx,rt:=E.rt} ρ else E.nx ρ):A5 c tb E ρ:=⟨I,⟨m0,h0⟩,hs⟩
theorem vY:bootBuiltins "reversed"=some (.type "reversed"):=by decide+kernel
section
variable {Z:DC} {X:Cx} {a b c e:Expr} {ta tb te:aS} {t:gW} {pos:Pos}
variable {md:List Nat} {rn:Nat} {k:Expr} {tk:aS}
variable {apos aR:Pos}
variable {es:List Expr}
end
section
variable {X:Cx} {elt t0 i0 t1 i1:Expr} {f0 f1:List Expr} {scope:Scope} {pos:Pos} {wi cz:TI} {g g1:TG} {tt b5:TT} {te:TE} {src:List (Option Nat)} {NC:List Str}
theorem wa{pins:List (Addr×Obj)}{σ:St}{s2:Shared}{H2:Hp}{it:Addr}{fp:List Addr}{tn:Nat→Heap→Prop}{J:It}{RR:Value→Addr→Result→Shared→Prop}{E:Value→Shared→Prop}{Q:VK}
  (hc:X.calm=true) (c:bU X scope) (dF:cF scope X.N src NC) (I2:Inv X pins σ H2 s2) (T:Turn X.prog X.w X.K t0 J fp it tn) (nh:tn 0 s2.heap) (f2:∀b∈fp,eF X pins H2 b)
  (hg:∀ex s H,PG (b0 X scope NC ex s H) t0 g) (ht:∀ex s H,kq (b0 X scope NC ex s H) f0 tt) (qR:∀ex s H,PI (b0 X scope NC ex s H) t1 i1 cz) (zM:∀ex s H,PG (b0 X scope NC ex s H) t1 g1)
  (zU:∀ex s H,kq (b0 X scope NC ex s H) f1 b5) (he:∀ex s H,PE (b0 X scope NC ex s H) elt te) (uA:∀env x,foldedSetIterable i1 env x=pure x)
  (hW:∀D,H2 D=none→Jv g tt cz g1 b5 te D J Q (j0 src σ) (upd H2 D (.lst [])))
  (KA:∀D s3 H3 av H' s',Inv X pins σ H3 s3→(∀b∈fp,eF X pins H3 b)→Inv (b0 X scope NC fp s3 H3) [] av H' s'→Q (.ref D) H'→RR (.ref D) s3.heap.objs.size (.ok .next) s'):
  wpAny (model X.prog X.w) X.A (newList []) (λacc F0=>wpAny (model X.prog X.w) X.A (newFunctionEnv scope X.env.globals (gv X.env scope.names []) [] X.env.qual none .none (some X.env)) (λky tX=>
   codeAny (model X.prog X.w) X.A (.compStart (.ListComp elt [⟨t0,i0,f0,0⟩,⟨t1,i1,f1,0⟩] scope pos) 0 (.ref it) acc {ky with scope:=relabel scope X.env}) (RR acc ky.locals) tX) E F0) E s2:=by
 obtain ⟨W,⟨m0,w0⟩,turn⟩:=hW s2.heap.objs.size I2.fresh;have I3:Inv X pins σ (upd H2 s2.heap.objs.size (.lst [])) {s2 with heap:=s2.heap.push {cls:= .type "list",data:= .seq ([]:List Value).toArray}}:=I2.Bl (its:= []) (t':=s2.toks) .nil (b9 _)
 have Cs:∀b∈fp,b<s2.heap.objs.size:=λb hb=>by
  obtain ⟨o,e,_⟩:=T.obj _ _ nh b hb;exact Heap.lt_size e
 have f3:∀b∈fp,eF X pins (upd H2 s2.heap.objs.size (.lst [])) b:=λb hb=>⟨by rw [aC (bZ (Cs b hb))];exact (f2 b hb).1,(f2 b hb).2⟩
 refine wpAny_newObj_type ?_
 suffices key:∀s3:Shared,Inv X pins σ (upd H2 s2.heap.objs.size (.lst [])) s3→(∀b o,s2.heap.get? b=some o→s3.heap.get? b=some o)→
   wpAny (model X.prog X.w) X.A (newFunctionEnv scope X.env.globals (gv X.env scope.names []) [] X.env.qual none .none (some X.env)) (λky tX=>
    codeAny (model X.prog X.w) X.A (.compStart (.ListComp elt [⟨t0,i0,f0,0⟩,⟨t1,i1,f1,0⟩] scope pos) 0 (.ref it) (.ref s2.heap.objs.size) {ky with scope:=relabel scope X.env}) (RR (.ref s2.heap.objs.size) ky.locals) tX) E s3 from
  key _ I3 λb o e=>Heap.get?_push_of_some _ e
 intro s3 I3 Mf;have yX:tn 0 s3.heap:=T.keep _ _ _ nh λb _ o e=>Mf b o e
 have Ab:∀b∈fp,b<s3.heap.objs.size:=λb hb=>by
  obtain ⟨o,e,_⟩:=T.obj _ _ yX b hb;exact Heap.lt_size e
 generalize TC:upd H2 s2.heap.objs.size (.lst [])=H3 at I3 f3 w0;refine wpAny_newFunctionEnv c.nocell (by intro y hy;simp at hy) (λh1 wC wG=>?_) c.kind
 have I4:=uK (src:=src) (NC:=NC) (ex:=fp) (tk:=s3.toks+([]:List (Str×Value)).length) I3 c dF f3 Ab wC wG;have FX:tn 0 h1:=T.keep _ _ _ yX λb hb o e=>wG.extBut b o (bZ (Ab b hb)) (Heap.get?_push_of_some _ e);generalize hX:b0 X scope NC fp s3 H3=XC at I4
 have stat:∀{H':Hp},(∀b∈fp,H' b=none)→∀b∈fp,eF XC [] H' b:=λ {H'} hn b hb=>by
  subst hX;refine ⟨hn b hb,bZ (Ab b hb),λz=>?_, .inl hb,λx d e=>?_,λp hp=>absurd (show p∈([]:List (Addr×Obj)) from hp) (by simp)⟩
  ·exact (I4.ok.exfs b hb) z
  ·exact (I4.ok.exf b hb).2 x d e
 have B9:XC.calm=true:=by subst hX;exact hc
 have eP:XC.prog=X.prog:=by subst hX;rfl
 have ew:XC.w=X.w:=by subst hX;rfl
 have eK:XC.K=X.K:=by subst hX;rfl
 have eA:XC.A=X.A:=by subst hX;rfl
 have GO:XC.xe=λ_ _=>False:=by subst hX;rfl
 have K0:PG XC t0 g:=by subst hX;exact hg _ _ _
 have K9:kq XC f0 tt:=by subst hX;exact ht _ _ _
 have T5:PI XC t1 i1 cz:=by subst hX;exact qR _ _ _
 have Oz:PG XC t1 g1:=by subst hX;exact zM _ _ _
 have OR:kq XC f1 b5:=by subst hX;exact zU _ _ _
 have KU:PE XC elt te:=by subst hX;exact he _ _ _
 have iN:∀{α:Type}{t:Sem α}{Q:α→Shared→Prop}{E:Value→Shared→Prop}{s:Shared},wpAny (model XC.prog XC.w) XC.A t Q XC.xe s→wpAny (model X.prog X.w) X.A t Q E s:=λ {α t Q E s} h=>by
  rw [←eP,←ew,←eA];exact wpAny_mono h (λ_ _ q=>q) λ_ _ f=>by rw [GO] at f;exact f.elim
 have loop:codeAny (model X.prog X.w) X.A (.compLoop (.ListComp elt [⟨t0,i0,f0,0⟩,⟨t1,i1,f1,0⟩] scope pos) 0 (.ref it) (.ref s2.heap.objs.size) XC.env) (RR (.ref s2.heap.objs.size) s3.heap.objs.size)
   {s3 with heap:=h1,toks:=s3.toks+([]:List (Str×Value)).length}:=by
  refine codeAny_loop rfl (λn s'=>∃i av H',Inv XC [] av H' s'∧tn i s'.heap∧(∀b∈fp,H' b=none)∧W i n av H') (λn s' hI=>?_) m0 ⟨0,_,_,I4,FX,λb hb=>(f3 b hb).1,w0⟩;obtain ⟨i,av,H',I5,qZ,ux,w5⟩:=hI;show wpAny _ X.A ((compTurn (.ListComp elt [⟨t0,i0,f0,0⟩,⟨t1,i1,f1,0⟩] scope pos) 0 (.ref it) (.ref s2.heap.objs.size) XC.env).onRaise (λx=>do noteFrame x XC.env;theTreesLotGoes x)) _ _ s'
  refine wpAny_noted ?_;rw [r6];refine wpAny_bind (wpAny_standAt (wpAny_bind ?_))
  rcases turn i n av H' w5 with ⟨stop,qn⟩ | ⟨go,N,hN,step⟩
  ·have hd:=T.done XC eP ew eK B9 i [] s' av H' (notedBy (model X.prog X.w) X.A XC.env λe s'=>RR (.ref s2.heap.objs.size) s3.heap.objs.size (.error e) s') I5 (stat ux) qZ stop
   rw [eA] at hd;refine thn hd λr s6 ⟨hr,I6⟩=>?_;subst hr;refine wpAny_pure ?_;subst hX;exact KA _ s3 _ av H' s6 I3 f3 I6 qn
  ·have hd:=T.item XC eP ew eK B9 i [] s' av H' (notedBy (model X.prog X.w) X.A XC.env λe s'=>RR (.ref s2.heap.objs.size) s3.heap.objs.size (.error e) s') I5 (stat ux) qZ go
   rw [eA] at hd;refine thn hd λr s6 ⟨u,hr,h6⟩=>?_;subst hr;refine wpAny_bind (thn h6 λ_ s7 ⟨x,H7,I7,r7,y7,tW,Ed⟩=>?_);have C7:=I7.pinned (stat Ed) (T.obj _ _ tW)
   have nextT:∀{fe:St}{H8:Hp}{s8:Shared},Inv XC ([]++jJ fp s7.heap) fe H8 s8→N fe H8→∃m,m<n∧∃i av H',Inv XC [] av H' s8∧tn i s8.heap∧(∀b∈fp,H' b=none)∧W i m av H':=λ {fe H8 s8} I8 n8=>by
    obtain ⟨m',hm,w8⟩:=hN fe H8 n8;refine ⟨m',hm,i+1,fe,H8,I8.gU,T.keep _ _ _ tW λb hb o e=>(I8.pin (b,o) (eY _ (eY _ (cX hb e)))).1,λb hb=>?_,w8⟩;obtain ⟨o,e,d⟩:=T.obj _ _ tW b hb;exact (I8.pin (b,o) (eY _ (eY _ (cX hb e)))).2.1
   refine wpAny_bind (iN (thn (K0 _ s7 av H7 x u _ C7 r7 (step x H7 y7)) λ_ s8 ⟨fe,H8,I8,q8⟩=>?_));refine wpAny_bind (iN (thn (K9 _ s8 fe H8 _ I8 q8) λb s9 ⟨H9,I9,q9⟩=>?_));cases b with
   |false=>
    rw [if_neg bY] at q9;exact wpAny_pure ⟨by subst hX;rfl,nextT I9 q9⟩
   |true=>
    rw [if_pos rfl] at q9;refine wpAny_bind (iN (thn (T5 _ s9 fe H9 _ I9 q9) λv1 HM Tv=>?_));refine wpAny_bind (wpAny_standAt (wpAny_bind (wpAny_of_eq (uA _ v1) (wpAny_bind (wpAny_holding (iN (thn Tv λCk HN Tw=>?_)))))));obtain ⟨yo,XU,Yf,J1,Gj,rfl,C5,T1,Ra,Tq,sM⟩:=Tw;refine wpAny_bind (wpAny_runOwn ?_);have tr:∀(cd:Code)(R:Result→Shared→Prop),codeAny (model XC.prog XC.w) XC.A cd R HN→codeAny (model X.prog X.w) X.A cd R HN:=λcd R h=>by rw [eP,ew,eA] at h;exact h
    exact tr _ _ (xQ GO B9 C5 T1 Ra Tq Oz OR KU sM λav H' s' RJ Ws=>wpAny_pure ⟨by subst hX;rfl,nextT RJ Ws⟩)
 subst hX;exact codeAny_compStart_list loop (T.self _ 0 _ _ _ FX loop)
def F1(wi:TI)(g:TG)(tt:TT)(cz:TI)(g1:TG)(b5:TT)(te:TE)(src:List (Option Nat))(i:Nat):TS:=λD σ H=>F3 wi g tt cz g1 b5 te src σ H λv H'=>D.nx (σ.set i (some v)) H'
theorem tK{i:Nat}{x:Str}{px f6:Pos}(hc:X.calm=true)(hN:X.N.Nodup)(kD:X.N[i]? =some x)(hx:Loc X.env.scope x)(c:bU X scope)(dF:cF scope X.N src NC)(hi:PI X t0 i0 wi)
  (hg:∀ex s H,PG (b0 X scope NC ex s H) t0 g) (ht:∀ex s H,kq (b0 X scope NC ex s H) f0 tt) (qR:∀ex s H,PI (b0 X scope NC ex s H) t1 i1 cz) (zM:∀ex s H,PG (b0 X scope NC ex s H) t1 g1)
  (zU:∀ex s H,kq (b0 X scope NC ex s H) f1 b5) (he:∀ex s H,PE (b0 X scope NC ex s H) elt te)
  (jB:swapsWith (.ListComp elt [⟨t0,i0,f0,0⟩,⟨t1,i1,f1,0⟩] scope pos) (some (.Name x px)) f6.line X.env=pure true)
  (hf:X.fn x=true∨X.env.scope.names.lookup x=some .local:=by first|exact .inl rfl|exact .inr rfl|assumption)
  (hs:∀x,foldedSetIterable i0 X.env x=pure x:=by intro _;rfl) (uA:∀env x,foldedSetIterable i1 env x=pure x:=by intro _ _;rfl):PS X (.Assign [.Name x px] (.ListComp elt [⟨t0,i0,f0,0⟩,⟨t1,i1,f1,0⟩] scope pos) f6) (F1 wi g tt cz g1 b5 te src i):=by
 intro pins s σ H D I h;rw [exec_Assign_Name_used _ _ _ _ jB];refine wpAny_bind (wpAny_standAt (wpAny_bind ?_));show wpAny _ X.A (do let _ ←comprehension (.ListComp elt [⟨t0,i0,f0,0⟩,⟨t1,i1,f1,0⟩] scope pos) scope X.env _ (newList []) false (eval i0 X.env) (some (assign (.Name x px) X.env))) _ _ s
 refine wpAny_bind (wpAny_mono (wpAny_comprehension_free (use:=some (assign (.Name x px) X.env)) (Q:=λ_ s'=>SP X pins D .next s') rfl hs (fO (c.cells I.ok)) c.kind c.names
  (thn (hi pins s σ H _ I h) λv s1 h1=>thn h1 λCk s2 h2=>?_)) (λ_ s' hq=>wpAny_pure (wpAny_pure hq)) λ_ _ e=>e)
 obtain ⟨it,fp,tn,J,H2,rfl,I2,T,nh,f2,hW⟩:=h2;refine wa (RR:=λacc C=>compPost (model X.prog X.w) X.A X.xe (some (assign (.Name x px) X.env)) (λ_ s'=>SP X pins D .next s') acc C) (Q:=λv H'=>D.nx (σ.set i (some v)) H') hc c dF I2 T nh f2 hg ht qR zM zU he uA hW ?_;intro a s3 H3 av H' s' I3 f3 J' q;obtain ⟨m,hn,_⟩:=J'.loc;have IX:Inv X pins σ H' s':=comp_back I3 f3 J' (.refl ..);show wpAny _ X.A (assign (.Name x px) X.env (.ref a)) _ _ _;have nL:s3.heap.objs.size≠X.env.locals:=Nat.ne_of_gt I3.lt
 have nc:∀y d,X.env.cells.lookup y=some d→d≠s3.heap.objs.size:=λy d e z=>by
  obtain ⟨v,hv⟩:=I3.cell y d e
  have:=hv.lt
  rw [z] at this;exact absurd this (fB _)
 have np:∀p∈X.pn++pins,p.1≠s3.heap.objs.size:=λp hp z=>by
  have:=Heap.lt_size (I3.pin p hp).1
  rw [z] at this;exact absurd this (fB _)
 obtain ⟨oC,es,ep,K8,zK,rC⟩:=id hn;have Ei:H' s3.heap.objs.size=none:=J'.free
 have IP:Inv X ((s3.heap.objs.size,oC)::pins) σ H' s':=IX.jg λp hp=>by
  rcases bQ.mp hp with z|z
  ·rw [z]
   exact ⟨K8,Ei,nL,I3.EV (bh _),λv w=>by rw [zK] at w;cases w⟩
  ·exact IX.pin p (eY _ z)
 refine wpAny_assign_Name (lO (x:=x) IP hN kD hx (v:= .ref a) rfl (λs5 I5=>?_) hf);have Kw:=(I5.pin (s3.heap.objs.size,oC) (eY _ bP)).1;refine ⟨m,⟨oC,es,ep,Kw,zK,rC⟩,λh6 sb=>?_⟩;have C6:Inv X pins (σ.set i (some (.ref a))) H' s5:=I5.jg λp hp=>I5.pin p (eY _ (bV _ hp));exact ⟨_,H',C6.turned (t':=s5.toks) (it:=s3.heap.objs.size) (λb o hb e=>sb.extBut b o hb e) Ei nL (.inr I3.sz) nc np,q⟩
end
section
variable {Z:DC} {X:Cx} {md:List Nat} {rn:Nat} {elt t0 i0 t1 i1:Expr} {f0 f1:List Expr} {scope:Scope} {pos:Pos} {wi cz:fT} {g g1:cU} {tt b5:cN} {te:aS} {src:List (Option Nat)} {NC:List Str}
theorem zv(i:Nat){x:Str}{px f6:Pos}(hc:X.calm=true)(hN:X.N.Nodup)(c:bU X scope)(dF:cF scope X.N src NC)(hi:DI Z X t0 i0 wi)
  (hg:∀ex s H,DG Z (b0 X scope NC ex s H) t0 g) (ht:∀ex s H,uk Z (b0 X scope NC ex s H) f0 tt) (qR:∀ex s H,DI Z (b0 X scope NC ex s H) t1 i1 cz) (zM:∀ex s H,DG Z (b0 X scope NC ex s H) t1 g1)
  (zU:∀ex s H,uk Z (b0 X scope NC ex s H) f1 b5) (he:∀ex s H,DE Z (b0 X scope NC ex s H) elt te)
  (jB:swapsWith (.ListComp elt [⟨t0,i0,f0,0⟩,⟨t1,i1,f1,0⟩] scope pos) (some (.Name x px)) f6.line X.env=pure true:=by rfl) (hm:md.getD i 0=0:=by rfl) (kD:X.N[i]? =some x:=by rfl) (hx:Loc X.env.scope x:=by first|exact Or.inl rfl|exact Or.inr rfl)
  (hf:X.fn x=true∨X.env.scope.names.lookup x=some .local:=by first|exact .inl rfl|exact .inr rfl|assumption)
  (hs:∀x,foldedSetIterable i0 X.env x=pure x:=by intro _;rfl) (uA:∀env x,foldedSetIterable i1 env x=pure x:=by intro _ _;rfl):
  DSt Z X md rn (.Assign [.Name x px] (.ListComp elt [⟨t0,i0,f0,0⟩,⟨t1,i1,f1,0⟩] scope pos) f6) (DP md false i (IT wi g tt cz g1 b5 te src)):=by
 refine (tK hc hN kD hx c dF hi hg ht qR zM zU he jB hf hs uA).imp ?_;rintro D σ H ⟨B,ρ,E,⟨G,fp,S⟩,h,M⟩;refine EM σ H _ (S.ev false h λd hd=>⟨hd.1,λv G' H' S' x dv=>M.nx _ hd.2 _ _ ⟨G',_,S'.yO hm dv⟩⟩)
end
section
variable {Z:DC} {X:Cx} {md:List Nat} {rn:Nat} {e:Expr} {pos:Pos}
theorem aq.flat{G G':Hp}:∀{vs:List V}{ds:List D},aq Z G vs ds→ds.all eO=true→aq Z G' vs ds
 |_,_, .nil,_=> .nil
 |_,_, .cons a as,h=>by
  rw [List.all_cons,uh] at h;exact .cons (a.flat h.1) (as.flat h.2)
end
theorem jy{l:List D}{j:Nat}{d:D}(h:(iJ l)[j]? =some d):∃x,l[j]? =some x∧d= .tup [.int (j:Int),x]:=by
 unfold iJ at h;rw [List.getElem?_mapIdx] at h;cases e:l[j]? with
 |none=>rw [e] at h;cases h
 |some x=>rw [e] at h;cases h;exact ⟨x,rfl,rfl⟩
theorem zx(l:List D):(iJ l).length=l.length:=by unfold iJ;simp
theorem eV{α β:Type}{f:α→β}{l:List α}{j:Nat}{y:β}(h:(l.map f)[j]? =some y):∃x,l[j]? =some x∧y=f x:=by
 rw [eJ] at h;cases e:l[j]? with
 |none=>rw [e] at h;cases h
 |some x=>rw [e] at h;cases h;exact ⟨x,rfl,rfl⟩
theorem b6(r:List Nat):(r.map af).all eO=true:=by simp [af,eO]
theorem g7{r:List Nat}{p:Nat}:inD (af p) (r.map af)=decide (p∈r):=by
 unfold inD;rw [List.any_map]
 have:((λy=>iw y (af p))∘af)=λq:Nat=>decide (q=p):=by
  funext q
  simp [af,iw,Function.comp]
  by_cases z:q=p
  ·simp [z]
  ·have:¬(q:Int)=(p:Int):=by omega
   simp [z,this]
 rw [this]
 by_cases h:p∈r
 ·rw [decide_eq_true h,List.any_eq_true];exact ⟨p,h,by simp⟩
 ·rw [decide_eq_false h]
  apply vN.mpr;intro z;rw [List.any_eq_true] at z;obtain ⟨q,hq,e⟩:=z
  exact h (by have:q=p:=by simpa using e
              rw [←this];exact hq)
theorem gN{l:List D}{p:Nat}{d:D}(h:l[p]? =some d):fU l (p:Int)=some d:=xG h
theorem tZ{w:List (List Nat)}{p:Nat}(h:p<w.length):(w.map ai)[p]? =some (ai (Wb.row w p)):=by
 rw [eJ,Wb.FF h];rfl
section
variable {Z:DC} {X:Cx} {md:List Nat} {rn:Nat} {e:Expr} {te:aS} {pos:Pos}
end
theorem Jd{c:Bool}{A B:Prop}(e:c=true)(h:A):if c=true then A else B:=by rw [if_pos e];exact h
theorem oj{c:Bool}{A B:Prop}(e:c=false)(h:B):if c=true then A else B:=by rw [if_neg (by rw [e];exact bY)];exact h
theorem om{g:cU}{tt:cN}{te:aS}{α:Type}(I:DN→Prop)(enc:α→D)(p:α→Bool)(f:α→D):∀(ys:List α)(aA:DN)(acc:List D)(N:DN→List D→Prop),(∀y∈ys,∀aA,I aA→∀(Y:DN→D→Prop)(Nn:DN→Prop),(∀aT,I aT→p y=true→Y aT (f y))→(∀aT,I aT→p y=false→Nn aT)→g (enc y) aA λaT=>tt aT λb=>if b=true then te aT (Y aT) else Nn aT)→
  I aA→acc.length+ys.length≤sizeLine→(∀aA,I aA→N aA (acc++(ys.filter p).map f))→lcW g tt te (ys.map enc) aA acc N
 | [],aA,acc,N,_,hI,_,h=>by
  show N aA acc;simpa using h aA hI
 |y::ys,aA,acc,N,hs,hI,hz,h=>by
  rw [dY] at hz;refine hs y (bP ..) aA hI (λaT d=>acc.length<sizeLine∧lcW g tt te (ys.map enc) aT (acc++ [d]) N) (λaT=>lcW g tt te (ys.map enc) aT acc N) (λaT h1 hp=>⟨by omega,?_⟩) (λaT h1 hp=>?_)
  ·refine om I enc p f ys _ (acc++ [f y]) N (λz hz=>hs z (bV _ hz)) h1 (by simp;omega) λui h2=>?_
   have:=h ui h2
   rw [qK,hp] at this;simpa using this
  ·refine om I enc p f ys _ acc N (λz hz=>hs z (bV _ hz)) h1 (by omega) λui h2=>?_
   have:=h ui h2
   rw [qK,hp] at this;simpa using this
theorem yq{g:cU}{cz:fT}{g1:cU}{te:aS}{α β:Type}(I:DN→Prop)(enc:α→D)(f:α→List β)(gw:β→D):∀(ys:List α)(aA:DN)(acc:List β)(P:List D→Prop),
  (∀y∈ys,∀aA,I aA→∀(Y:DN→List D→Prop),(∀aT,I aT→Y aT ((f y).map gw))→g (enc y) aA λaT=>cz aT (Y aT))→
  (∀y∈ys,∀b∈f y,∀aA,I aA→∀(Y:DN→D→Prop),(∀aT,I aT→Y aT (gw b))→g1 (gw b) aA λaT=>te aT (Y aT))→
  I aA→acc.length+(ys.flatMap f).length≤sizeLine→P ((acc++ys.flatMap f).map gw)→gx g ma cz g1 ma te (ys.map enc) aA (acc.map gw) P
 | [],aA,acc,P,_,_,hI,_,h=>by
  show P (acc.map gw);simpa using h
 |y::ys,aA,acc,P,h1,h2,hI,hz,h=>by
  rw [pz,cj] at hz;refine h1 y (bP ..) aA hI (λaT es=>lcW g1 ma te es aT (acc.map gw) λck iX=>gx g ma cz g1 ma te (ys.map enc) ck iX P) λaT TF=>?_;refine om I gw (λ_=>true) gw (f y) aT (acc.map gw) _ (λb hb ck B8 Y Nn hY _=>?_) TF (by rw [aJ];omega) λck B8=>?_
  ·exact h2 y (bP ..) b hb ck B8 Y λMl h3=>hY Ml h3 rfl
  ·rw [List.filter_eq_self.mpr (λ_ _=>rfl),←dJ]
   refine yq I enc f gw ys ck (acc++f y) P (λz hz=>h1 z (bV _ hz)) (λz hz=>h2 z (bV _ hz)) B8 (by rw [cj];omega) ?_
   rw [pz] at h;rw [mF];exact h
theorem fY{α:Type}{us:List α}(h:us.length=1):∃a0,us= [a0]:=by
 cases us with
 |nil=>cases h
 |cons a l=>
  cases l with
  |nil=>exact ⟨a,rfl⟩
  |cons _ _=>cases h
theorem kG{α:Type}{us:List α}(h:us.length=2):∃a0 a1,us= [a0,a1]:=by
 cases us with
 |nil=>cases h
 |cons a l=>
  obtain ⟨a1,rfl⟩:=fY (Nat.succ.inj h);exact ⟨a,a1,rfl⟩
theorem qx{α:Type}{us:List α}(h:us.length=3):∃a0 a1 a2,us= [a0,a1,a2]:=by
 cases us with
 |nil=>cases h
 |cons a l=>
  obtain ⟨a1,a2,rfl⟩:=kG (Nat.succ.inj h);exact ⟨a,a1,a2,rfl⟩
theorem Po{α:Type}{us:List α}(h:us.length=4):∃a0 a1 a2 a3,us= [a0,a1,a2,a3]:=by
 cases us with
 |nil=>cases h
 |cons a l=>
  obtain ⟨a1,a2,a3,rfl⟩:=qx (Nat.succ.inj h);exact ⟨a,a1,a2,a3,rfl⟩
section
variable {Z:DC} {X:Cx} {e:Expr} {es:List Expr} {t:gW} {pos:Pos}
theorem az{sd:cZ}{k j:Nat}{x:Str}{st:Stmt}{ps:List Str}{p:Pos}(d:fh X.K X.mg x st ps)(F:FnOk X.prog X.w X.K X.mg X.base cE k d.f d.fd ps (aV Z sd))(hr:cv j X.A)(ha:DA Z X (e::es) t)(hg:Gl X x:=by rfl)(hk:k≤j:=by first|decide|omega)
  (kC:(x==("__debug__":Str))=false:=by decide) (he:starEach (e::es) X.env=(false,eval e X.env)::starEach es X.env:=by rfl) (fD:(backTo pos (starEach es X.env)).any (·.1)=false:=by rfl):
  DE Z X (.Call (.Name x p) (e::es) [] pos) (sg sd t):=DR F (hr.mono hk) hg d.m d.F.kp d.b ha kC he fD
theorem qN{scope:Scope}(sc:Scope)(e:X.env.scope=sc:=by rfl)(k:scope.kind= .function:=by rfl)(a:∀x∈scope.names,x.2= .local→scope.names.lookup x.1=some .local:=by decide+kernel)(b:∀x∈scope.names,x.2≠ .cell:=by decide+kernel)
  (c:∀x∈scope.names,x.2= .free→sc.names.lookup x.1=some .cell∨sc.names.lookup x.1=some .free:=by decide+kernel):bU X scope:=bU.of sc e k a b c
end
section
variable {K:PySem.W.Frag} {h:Heap} {mg:Str→Option Value}
abbrev fM(K:PySem.W.Frag)(x:Str)(d:Addr):Prop:=PySem.W.nsIn K mainGlobals x=some (some (.ref d))
abbrev dZ(K:PySem.W.Frag)(x qual:Str)(st:Stmt)(d:Addr)(od an:Option Addr)(sl:Array (Option Value))(oc kV dc pm cd ct:Value):Prop:=K.lookup d=some ⟨oc,od, .func (PySem.W.fnOf x qual (gY st) (eS st) (au st) .none kV dc pm an cd ct),sl⟩
def fh.of{x:Str}{st:Stmt}{ps:List Str}{d:Addr}{od an:Option Addr}{sl:Array (Option Value)}{oc kV dc pm cd ct:Value}(X:K.In h)(G:h.Ns mainGlobals mg)(a:fM K x d)(l:dZ K x x st d od an sl oc kV dc pm cd ct)(c:PySem.W.codeIn K cd x=true)(k:PySem.W.keepIn K (.ref d)=true)
  (b:∀(kV doc pm:Value)(an:Option Addr)(bz ct:Value)(us:List Value),us.length=ps.length→bindArgs (PySem.W.fnOf x x (gY st) (eS st) (au st) .none kV doc pm an bz ct) ⟨us,[]⟩=pure (ps.zip us)):fh K mg x st ps:=
 ⟨d,_,n6 l c k,(n6 l c k).binds b,PySem.W.mg_of X G a⟩
def zi.of{Z:DC}{m qual:Str}{st:Stmt}{ps:List Str}{d:Addr}{od an:Option Addr}{sl:Array (Option Value)}{oc kV dc pm cd ct:Value}(a:PySem.W.findIn Z.K (.ref Z.C) m=some (some (.ref d)))(f:PySem.W.isFn Z.K (.ref d)=true)(l:dZ Z.K m qual st d od an sl oc kV dc pm cd ct)(c:PySem.W.codeIn Z.K cd qual=true)(k:PySem.W.keepIn Z.K (.ref d)=true)
  (b:∀(kV doc pm:Value)(an:Option Addr)(bz ct:Value)(us:List Value),us.length=ps.length→bindArgs (PySem.W.fnOf m qual (gY st) (eS st) (au st) .none kV doc pm an bz ct) ⟨us,[]⟩=pure (ps.zip us)):zi Z m qual st ps:=
 ⟨d,_,n6 l c k,(n6 l c k).binds b,⟨a,f,k⟩⟩
end
end L2
namespace Wb
theorem nN{w:W}(g:Good w):(fj w).Nodup:=by
 unfold fj List.Nodup;refine kL (λp _=>?_) ?_
 ·rw [js]
  exact (g.nod p).imp λne e=>ne (congrArg Prod.snd e)
 ·refine List.Pairwise.imp ?_ List.pairwise_lt_range
  intro a b lt x hx y hy e;obtain ⟨_,_,rfl⟩:=cT.mp hx;obtain ⟨_,_,rfl⟩:=cT.mp hy
  have:=congrArg Prod.fst e
  simp at this;omega
structure RI (w:W) (bs:List Bool) (ws ex:List Nat) (c:Nat):Prop where
 len:bs.length=w.length
 z:bs[0]? =some true
 wt:∀x∈ws,bs[x]? =some true
 cl:∀x,bs[x]? =some true→x∈ws∨x∈ex∨∀q∈row w x,bs[q]? =some true
 cnt:bs.count false+ws.length≤c
theorem RI.pop{w:W}{bs:List Bool}{ws:List Nat}{p c:Nat}(h:RI w bs (ws++ [p]) [] (c+1)):RI w bs ws [p] c:=
 ⟨h.len,h.z,λx hx=>h.wt x (dW _ hx),λx hx=>by
  rcases h.cl x hx with q|q|q
  ·rcases cq.mp q with q|q
   ·exact .inl q
   ·exact .inr (.inl q)
  ·cases q
  ·exact .inr (.inr q),by have:=h.cnt;rw [cj] at this;simp at this;omega⟩
theorem RI.push{w:W}{bs:List Bool}{ws ex:List Nat}{q c:Nat}(h:RI w bs ws ex c)(hq:bs[q]? =some false):RI w (bs.set q true) (ws++ [q]) ex c:=by
 obtain ⟨hl,he⟩:=fC.mp hq
 have up:∀x,bs[x]? =some true→(bs.set q true)[x]? =some true:=λx hx=>by
  rw [qJ]
  by_cases e:q=x
  ·rw [if_pos e,if_pos hl]
  ·rw [if_neg e];exact hx
 refine ⟨by rw [j6];exact h.len,up _ h.z,λx hx=>?_,λx hx=>?_,?_⟩
 ·rcases cq.mp hx with z|z
  ·exact up _ (h.wt x z)
  ·have:x=q:=by simpa using z
   rw [this,qJ,if_pos rfl,if_pos hl]
 ·by_cases e:q=x
  ·exact .inl (by rw [e];simp)
  ·rw [qJ,if_neg e] at hx
   rcases h.cl x hx with z|z|z
   ·exact .inl (dW _ z)
   ·exact .inr (.inl z)
   ·exact .inr (.inr λy hy=>up _ (z y hy))
 ·have hc:=h.cnt
  have:0<bs.count false:=List.count_pos_iff.mpr (by rw [←he];exact mH hl)
  rw [List.count_set hl,he,cj];simp;omega
theorem RI.close{w:W}{bs:List Bool}{ws:List Nat}{p c:Nat}(h:RI w bs ws [p] c)(hp:∀q∈row w p,bs[q]? =some true):RI w bs ws [] c:=
 ⟨h.len,h.z,h.wt,λx hx=>by
  rcases h.cl x hx with q|q|q
  ·exact .inl q
  ·have:x=p:=by simpa using q
   rw [this];exact .inr (.inr hp)
  ·exact .inr (.inr q),h.cnt⟩
theorem RI.all{w:W}{bs:List Bool}{c:Nat}(g:Good w)(h:RI w bs [] [] c):bs=List.replicate w.length true:=by
 have:=ql g (S:=λx=>bs[x]? =some true) h.z λp q hp hq=>by
  rcases h.cl p hp with z|z|z
  ·cases z
  ·cases z
  ·exact z q hq
 refine List.ext_getElem? λi=>?_
 by_cases hi:i<w.length
 ·rw [this i hi,BP,if_pos hi]
 ·rw [j3 (by rw [h.len];omega),j3 (by simp;omega)]
end Wb
namespace mK
open PySem L2 Wb
def top(i:Nat):Stmt:=PySem.Challenge.pw_mapdye_k34_whole_rings_led_down.main.body.getD i (.Pass ⟨0,0,0,0⟩)
abbrev kP:Stmt:=top 10
abbrev h8:Stmt:=top 11
abbrev iW:Stmt:=top 12
abbrev ie:Stmt:=top 13
abbrev iV:Stmt:=top 14
abbrev cB:Stmt:=top 15
abbrev ib:Stmt:=top 16
abbrev ic:Stmt:=top 17
abbrev kO:Stmt:=top 20
abbrev jO:Stmt:=top 21
abbrev jk:Stmt:=top 22
abbrev eE:Stmt:=top 23
abbrev qf:Stmt:=top 24
abbrev jN:Stmt:=top 25
abbrev gn:Stmt:=top 27
abbrev iS:Stmt:=top 28
abbrev iT:Stmt:=top 29
abbrev dr:Stmt:=top 30
abbrev iR:Stmt:=top 31
abbrev iA:Stmt:=top 32
abbrev gr:Stmt:=top 33
abbrev iU:Stmt:=top 34
abbrev jL:Stmt:=top 35
abbrev eD:Stmt:=top 36
abbrev jM:Stmt:=top 37
abbrev xc:Stmt:=top 38
abbrev dk:Stmt:=L2.gP (top 18) 0
abbrev qC:Stmt:=L2.gP (top 18) 1
abbrev gM:Stmt:=L2.gP (top 18) 2
abbrev qD:Stmt:=L2.gP (top 18) 3
abbrev kN:Stmt:=L2.gP (top 18) 4
abbrev mn:Stmt:=L2.gP (top 18) 5
theorem oR:aH ["thing","many"] ["thing","many"] (au kP):=⟨rfl,rfl,rfl,by decide+kernel,rfl,by decide+kernel,by decide+kernel⟩
theorem jW:aH ["rows","p","row","q"] ["rows"] (au h8):=⟨rfl,rfl,rfl,by decide+kernel,rfl,by decide+kernel,by decide+kernel⟩
theorem kX:aH ["rows","p","row"] ["rows"] (au iW):=⟨rfl,rfl,rfl,by decide+kernel,rfl,by decide+kernel,by decide+kernel⟩
theorem jZ:aH ["rows","p","row","place","q"] ["rows"] (au ie):=⟨rfl,rfl,rfl,by decide+kernel,rfl,by decide+kernel,by decide+kernel⟩
theorem kW:aH ["rows","p","row","q"] ["rows"] (au iV):=⟨rfl,rfl,rfl,by decide+kernel,rfl,by decide+kernel,by decide+kernel⟩
theorem fz:aH ["rows","reached","waiting","p","q"] ["rows"] (au cB):=⟨rfl,rfl,rfl,by decide+kernel,rfl,by decide+kernel,by decide+kernel⟩
theorem jX:aH ["rows","q","reached"] ["rows"] (au ib):=⟨rfl,rfl,rfl,by decide+kernel,rfl,by decide+kernel,by decide+kernel⟩
theorem jY:aH ["rows","fault"] ["rows"] (au ic):=⟨rfl,rfl,rfl,by decide+kernel,rfl,by decide+kernel,by decide+kernel⟩
theorem oQ:aH ["ring","p","place"] ["ring","p"] (au kO):=⟨rfl,rfl,rfl,by decide+kernel,rfl,by decide+kernel,by decide+kernel⟩
theorem mB:aH ["web","ring","i","turn"] ["web","ring","i"] (au jO):=⟨rfl,rfl,rfl,by decide+kernel,rfl,by decide+kernel,by decide+kernel⟩
theorem tP:aH ["web","ring","pairs"] ["web","ring"] (au jk):=⟨rfl,rfl,rfl,by decide+kernel,rfl,by decide+kernel,by decide+kernel⟩
theorem iC:aH ["web","ring","turns","waiting","met","p"] ["web","ring"] (au eE):=⟨rfl,rfl,rfl,by decide+kernel,rfl,by decide+kernel,by decide+kernel⟩
theorem tQ:aH ["ring","i","j"] ["ring","i","j"] (au qf):=⟨rfl,rfl,rfl,by decide+kernel,rfl,by decide+kernel,by decide+kernel⟩
theorem mz:aH ["web","ring"] ["web","ring"] (au jN):=⟨rfl,rfl,rfl,by decide+kernel,rfl,by decide+kernel,by decide+kernel⟩
theorem jn:aH ["_law_script","_law_k"] ["_law_script","_law_k"] (au gn):=⟨rfl,rfl,rfl,by decide+kernel,rfl,by decide+kernel,by decide+kernel⟩
theorem kR:aH ["_law_cell","_law_mixed"] ["_law_cell"] (au iS):=⟨rfl,rfl,rfl,by decide+kernel,rfl,by decide+kernel,by decide+kernel⟩
theorem kS:aH ["_law_number","_law_turns","_law_ring","_law_many","_law_point","_law_at","_law_far","_law_arc","_law_other"] ["_law_number"] (au iT):=⟨rfl,rfl,rfl,by decide+kernel,rfl,by decide+kernel,by decide+kernel⟩
theorem kT:aH ["_law_turns","_law_ring","_law_number","_law_names","_law_k","_law_found","_law_row","_law_at"] ["_law_turns","_law_ring","_law_number"] (au dr):=⟨rfl,rfl,rfl,by decide+kernel,rfl,by decide+kernel,by decide+kernel⟩
theorem kQ:aH ["_law_script","_law_turns","_law_ring","_law_number","_law_one","_law_other","_law_row"] ["_law_script"] (au iR):=⟨rfl,rfl,rfl,by decide+kernel,rfl,by decide+kernel,by decide+kernel⟩
theorem oP:aH ["_law_turns"] ["_law_turns"] (au iA):=⟨rfl,rfl,rfl,by decide+kernel,rfl,by decide+kernel,by decide+kernel⟩
theorem jo:aH ["_law_web_here","_law_ring","_law_k"] ["_law_web_here","_law_ring"] (au gr):=⟨rfl,rfl,rfl,by decide+kernel,rfl,by decide+kernel,by decide+kernel⟩
theorem kU:aH ["_law_web_here","_law_ring","_law_some","_law_number","_law_i","_law_j","_law_one","_law_other","_law_inner"] ["_law_web_here","_law_ring","_law_some","_law_number"] (au iU):=⟨rfl,rfl,rfl,by decide+kernel,rfl,by decide+kernel,by decide+kernel⟩
theorem mx:aH ["_law_web_here","_law_ring","_law_inner","_law_less_here","_law_left"] ["_law_web_here","_law_ring"] (au jL):=⟨rfl,rfl,rfl,by decide+kernel,rfl,by decide+kernel,by decide+kernel⟩
theorem iB:aH ["_law_some","_law_last","_law_number"] ["_law_some","_law_last","_law_number"] (au eD):=⟨rfl,rfl,rfl,by decide+kernel,rfl,by decide+kernel,by decide+kernel⟩
theorem my:aH ["_law_web_here","_law_ring","_law_number","_law_some","_law_parts_here","_law_told","_law_inner","_law_less_here","_law_at"] ["_law_web_here","_law_ring","_law_number"] (au jM):=⟨rfl,rfl,rfl,by decide+kernel,rfl,by decide+kernel,by decide+kernel⟩
theorem BI:aH ["_law_script","_law_turns","_law_ring","_law_web_here","_law_number","_law_waiting","_law_came","_law_used","_law_k","_law_here","_law_told","_law_others"] ["_law_script"] (au xc):=⟨rfl,rfl,rfl,by decide+kernel,rfl,by decide+kernel,by decide+kernel⟩
theorem jl:aH ["self","turns","rows","fault"] ["self","turns"] (au dk):=⟨rfl,rfl,rfl,by decide+kernel,rfl,by decide+kernel,by decide+kernel⟩
theorem mw:aH ["self"] ["self"] (au gM):=⟨rfl,rfl,rfl,by decide+kernel,rfl,by decide+kernel,by decide+kernel⟩
theorem oO:aH ["self","a","b","many"] ["self","a","b"] (au kN):=⟨rfl,rfl,rfl,by decide+kernel,rfl,by decide+kernel,by decide+kernel⟩
structure Txt (Z:DC) (mg:Str→Option Value) where
 B:Mn mg
 x_set:mg "set"=none
 d_is_among:fh Z.K mg "is_among" kP ["thing","many"]
 d_alien_fault:fh Z.K mg "alien_fault" h8 ["rows"]
 d_self_fault:fh Z.K mg "self_fault" iW ["rows"]
 d_twice_fault:fh Z.K mg "twice_fault" ie ["rows"]
 d_lone_fault:fh Z.K mg "lone_fault" iV ["rows"]
 d_reached_from_first:fh Z.K mg "reached_from_first" cB ["rows"]
 d_apart_fault:fh Z.K mg "apart_fault" ib ["rows"]
 d_first_fault:fh Z.K mg "first_fault" ic ["rows"]
 d_begun_at:fh Z.K mg "begun_at" kO ["ring","p"]
 d_within_at:fh Z.K mg "within_at" jO ["web","ring","i"]
 d_chords:fh Z.K mg "chords" jk ["web","ring"]
 d_points_within:fh Z.K mg "points_within" eE ["web","ring"]
 d_parted:fh Z.K mg "parted" qf ["ring","i","j"]
 d_made_less:fh Z.K mg "made_less" jN ["web","ring"]
 d__law_cell_at:fh Z.K mg "_law_cell_at" gn ["_law_script","_law_k"]
 d__law_drawn:fh Z.K mg "_law_drawn" iS ["_law_cell"]
 d__law_grown:fh Z.K mg "_law_grown" iT ["_law_number"]
 d__law_named:fh Z.K mg "_law_named" dr ["_law_turns","_law_ring","_law_number"]
 d__law_built:fh Z.K mg "_law_built" iR ["_law_script"]
 d__law_web:fh Z.K mg "_law_web" iA ["_law_turns"]
 d__law_is_ring:fh Z.K mg "_law_is_ring" gr ["_law_web_here","_law_ring"]
 d__law_parts:fh Z.K mg "_law_parts" iU ["_law_web_here","_law_ring","_law_some","_law_number"]
 d__law_less:fh Z.K mg "_law_less" jL ["_law_web_here","_law_ring"]
 d__law_by_chord:fh Z.K mg "_law_by_chord" eD ["_law_some","_law_last","_law_number"]
 d__law_step:fh Z.K mg "_law_step" jM ["_law_web_here","_law_ring","_law_number"]
 d_law:fh Z.K mg "law" xc ["_law_script"]
 W:AZ Z
 mC:mg "Web"=some (.ref Z.C)
 i_f:Addr
 i_fd:FuncData
 i_F:um Z.K "__init__" "Web.__init__" dk i_f i_fd
 mkW:Mk Z.K Z.C i_f
 m___init__b:Binds Z.K i_fd ["self","turns"] []
 m_many:zi Z "many" "Web.many" qC ["self"]
 m_turns:zi Z "turns" "Web.turns" gM ["self"]
 m_ties:zi Z "ties" "Web.ties" qD ["self"]
 m_tied:zi Z "tied" "Web.tied" kN ["self","a","b"]
 m_behind:zi Z "behind" "Web.behind" mn ["self","p","q"]
 c_MOST_POINTS:∃tk,mg "MOST_POINTS"=some (.int 14 tk)
variable {P:Program} {w:World} {mg:Str→Option Value} {base:Heap} {Z:DC} (T:Txt Z mg)
def FL:cZ:=λds P=>∃(i n:Int),ds= [.int i, .int n]∧P (.bl (decide (0≤i∧i<n)))
theorem jG:FnOk P w Z.K mg base cE 1 T.d_is_among.f T.d_is_among.fd ["thing","many"] (aV Z FL):=by
 have nd:=oR.nd;refine bo T.d_is_among.F oR [0,0] (by decide) (λds R h=>by obtain ⟨_,_,rfl,_⟩:=h;rfl) (λbz A outer s H E ds R hr h=>?_)
 have hu:=hr.units;refine ⟨_,(ao (aI (lD (A6 "int" (aa 0) rfl T.B.isinstance rfl T.B.int Gq) (lD (Gy (A6 "bool" (aa 0) rfl T.B.isinstance rfl T.B.bool Dr)) (rh (BZ Aj pV ar (aa 0) (aa 1))))))),?_⟩;obtain ⟨i,n,rfl,q⟩:=h;refine ⟨_,rfl,rfl,true,rfl,cD ⟨_,rfl,rfl,false,rfl,true,rfl,cD ⟨_,rfl,?_⟩⟩⟩;refine ⟨_,rfl,dG (λh0=>⟨_,rfl,?_⟩) (λh0=>?_)⟩
 ·have h0:0≤i:=of_decide_eq_true h0
  show R (.bl (decide (i<n)));rw [show decide (i<n)=decide (0≤i∧i<n) by simp [h0]]
  exact q
 ·have h0:¬0≤i:=of_decide_eq_false h0
  rw [show decide (0≤i∧i<n)=false by simp [h0]] at q
  exact q
def lM:cZ:=λds P=>∃(w:W),ds= [aM w]∧Good w∧1≤w.length∧w.length≤14∧P .aZ
theorem BN{w:W}{j:Nat}{d:D}(h:(iJ (w.map ai))[j]? =some d):j<w.length∧d= .tup [.int (j:Int),ai (row w j)]:=by
 obtain ⟨x,hx,rfl⟩:=jy h;obtain ⟨r,hr,rfl⟩:=eV hx;have hj:j<w.length:=(fC.mp hr).1;refine ⟨hj,?_⟩;rw [BG hr]
theorem qV:FnOk P w Z.K mg base cE 2 T.d_alien_fault.f T.d_alien_fault.fd ["rows"] (aV Z lM):=by
 have nd:=jW.nd;refine bo T.d_alien_fault.F jW [0,0,0,0] (by decide) (λds R h=>by obtain ⟨_,rfl,_⟩:=h;rfl) (λbz A outer s H E ds R hr h=>?_)
 have hu:=hr.units
 refine ⟨_,(ah (fk rfl PassesOwn.never (gZ rfl T.B.enumerate (ab (aa 0) ag)) (eZ 2 rfl (aY (aL 1 nd) (aY (aL 2 nd) cH))) (ao (fk rfl PassesOwn.never (cx (aa 2)) (aL 3 nd) (ao (bT (lH (iu (az T.d_is_among (jG T) hr (ab (aa 3) (ab (ax aO rfl T.B.len aN (ab (aa 0) ag)) ag))))) (ao (aI (ee (ab nO (ab (aa 1) (ab (aa 3) ag)))))) ba)))))
   (ao (aI cJ))),?_⟩
 obtain ⟨w',rfl,g,h1,bw,q⟩:=h;refine ⟨_,rfl,di (λ_ ρ=>∃o1 o2 o3,ρ= [some (aM w'),o1,o2,o3]) ⟨_,_,_,rfl⟩ ?_ ?_⟩
 ·rintro j d _ hd ⟨o1,o2,o3,rfl⟩ A hA
  obtain ⟨hj,rfl⟩:=BN hd;refine ⟨rfl,rfl,?_⟩;refine ⟨_,rfl,di (λ_ ρ=>∃o3,ρ= [some (aM w'),some (.int (j:Int)),some (ai (row w' j)),o3]) ⟨_,rfl⟩ ?_ ?_⟩
  ·rintro k d' _ hk ⟨o4,rfl⟩ A' zG
   obtain ⟨x,hx,rfl⟩:=eV hk;refine ⟨_,rfl,_,rfl,_,_,rfl,⟨rfl,?_⟩⟩;have b4:x<w'.length:=g.rng _ _ (gD hx);rw [show decide ((0:Int)≤(x:Int)∧(x:Int)<((w'.map ai).length:Int))=true by simp;omega]
   exact cy (zG _ ⟨_,rfl⟩)
  ·rintro _ ⟨o4,rfl⟩
   exact hA _ ⟨_,_,_,rfl⟩
 ·rintro _ ⟨o1,o2,o3,rfl⟩
  exact q
theorem tF:FnOk P w Z.K mg base cE 1 T.d_self_fault.f T.d_self_fault.fd ["rows"] (aV Z lM):=by
 have nd:=kX.nd;refine bo T.d_self_fault.F kX [0,0,0] (by decide) (λds R h=>by obtain ⟨_,rfl,_⟩:=h;rfl) (λbz A outer s H E ds R hr h=>?_)
 have hu:=hr.units
 refine ⟨_,(ah (fk rfl PassesOwn.never (gZ rfl T.B.enumerate (ab (aa 0) ag)) (eZ 2 rfl (aY (aL 1 nd) (aY (aL 2 nd) cH))) (ao (bT (bg wO (aa 1) (aa 2) (by with_unfolding_all rfl)) (ao (aI (ee (ab nO (ab (aa 1) (ab (aa 1) ag)))))) ba)))
   (ao (aI cJ))),?_⟩
 obtain ⟨w',rfl,g,h1,bw,q⟩:=h;refine ⟨_,rfl,di (λ_ ρ=>∃o1 o2,ρ= [some (aM w'),o1,o2]) ⟨_,_,rfl⟩ ?_ ?_⟩
 ·rintro j d _ hd ⟨o1,o2,rfl⟩ A hA
  obtain ⟨hj,rfl⟩:=BN hd;refine ⟨rfl,rfl,?_⟩;refine ⟨_,rfl,_,rfl,rfl,b6 _,_,rfl,?_⟩
  have e:inD (.int (j:Int)) ((row w' j).map af)=false:=by
   have:=g7 (r:=row w' j) (p:=j)
   rw [decide_eq_false (g.irr j)] at this;exact this
  rw [if_neg bY,e];exact cy (hA _ ⟨_,_,rfl⟩)
 ·rintro _ ⟨o1,o2,rfl⟩
  exact q
theorem dR{α:Type}(l:List α)(k:Nat)(h:k≤l.length):cutD l none (some (k:Int))=l.take k:=by
 unfold cutD;have e1:HT.bx l.length 0 none=0:=rfl
 have e2:HT.bx l.length l.length (some (k:Int))=k:=by
  simp only [HT.bx]
  split<;>omega
 rw [e1,e2];simp
theorem qX:FnOk P w Z.K mg base cE 1 T.d_twice_fault.f T.d_twice_fault.fd ["rows"] (aV Z lM):=by
 have nd:=jZ.nd;refine bo T.d_twice_fault.F jZ [0,0,0,0,0] (by decide) (λds R h=>by obtain ⟨_,rfl,_⟩:=h;rfl) (λbz A outer s H E ds R hr h=>?_)
 have hu:=hr.units
 refine ⟨_,(ah (fk rfl PassesOwn.never (gZ rfl T.B.enumerate (ab (aa 0) ag)) (eZ 2 rfl (aY (aL 1 nd) (aY (aL 2 nd) cH))) (ao (fk rfl PassesOwn.never (gZ rfl T.B.enumerate (ab (aa 2) ag)) (eZ 2 rfl (aY (aL 3 nd) (aY (aL 4 nd) cH))) (ao (bT (bg wO (aa 4) (bH (aa 2) bX (bA (aa 3))) (by with_unfolding_all rfl)) (ao (aI (ee (ab nO (ab (aa 1) (ab (aa 4) ag)))))) ba)))))
   (ao (aI cJ))),?_⟩
 obtain ⟨w',rfl,g,h1,bw,q⟩:=h;refine ⟨_,rfl,di (λ_ ρ=>∃o1 o2 o3 o4,ρ= [some (aM w'),o1,o2,o3,o4]) ⟨_,_,_,_,rfl⟩ ?_ ?_⟩
 ·rintro j d _ hd ⟨o1,o2,o3,o4,rfl⟩ A hA
  obtain ⟨hj,rfl⟩:=BN hd;refine ⟨rfl,rfl,?_⟩;refine ⟨_,rfl,di (λ_ ρ=>∃o3 o4,ρ= [some (aM w'),some (.int (j:Int)),some (ai (row w' j)),o3,o4]) ⟨_,_,rfl⟩ ?_ ?_⟩
  ·rintro k d' _ hk ⟨o5,o6,rfl⟩ A' zG
   obtain ⟨y,hy,rfl⟩:=jy hk;obtain ⟨x,hx,rfl⟩:=eV hy;have lU:k<(row w' j).length:=(fC.mp hx).1;refine ⟨rfl,rfl,?_⟩;refine ⟨_,rfl,_,rfl,_,rfl,?_⟩;have ec:cutD ((row w' j).map af) none (some (k:Int))=((row w' j).take k).map af:=by rw [dR _ _ (by simp;omega),lh]
   refine (?_:Gu false (af x) (.lst (cutD ((row w' j).map af) none (some (k:Int)))) _);rw [ec];refine ⟨rfl,b6 _,_,rfl,?_⟩
   have e:inD (af x) (((row w' j).take k).map af)=false:=by
    rw [g7,decide_eq_false];intro z;obtain ⟨m,hm⟩:=zf z
    have yf:m<k:=by
     have:=(fC.mp hm).1
     rw [b8] at this;omega
    rw [pe yf] at hm;exact absurd ((List.getElem?_inj (by omega) (g.nod j)).mp (hm.trans hx.symm)) (by omega)
   rw [if_neg bY,e];exact cy (zG _ ⟨_,_,rfl⟩)
  ·rintro _ ⟨o5,o6,rfl⟩
   exact hA _ ⟨_,_,_,_,rfl⟩
 ·rintro _ ⟨o1,o2,o3,o4,rfl⟩
  exact q
theorem tE:FnOk P w Z.K mg base cE 1 T.d_lone_fault.f T.d_lone_fault.fd ["rows"] (aV Z lM):=by
 have nd:=kW.nd;refine bo T.d_lone_fault.F kW [0,0,0,0] (by decide) (λds R h=>by obtain ⟨_,rfl,_⟩:=h;rfl) (λbz A outer s H E ds R hr h=>?_)
 have hu:=hr.units
 refine ⟨_,(ah (fk rfl PassesOwn.never (gZ rfl T.B.enumerate (ab (aa 0) ag)) (eZ 2 rfl (aY (aL 1 nd) (aY (aL 2 nd) cH))) (ao (fk rfl PassesOwn.never (cx (aa 2)) (aL 3 nd) (ao (bT (bg pW (aa 1) (bC (aa 0) (aa 3)) (by with_unfolding_all rfl)) (ao (aI (ee (ab nO (ab (aa 1) (ab (aa 3) ag)))))) ba)))))
   (ao (aI cJ))),?_⟩
 obtain ⟨w',rfl,g,h1,bw,q⟩:=h;refine ⟨_,rfl,di (λ_ ρ=>∃o1 o2 o3,ρ= [some (aM w'),o1,o2,o3]) ⟨_,_,_,rfl⟩ ?_ ?_⟩
 ·rintro j d _ hd ⟨o1,o2,o3,rfl⟩ A hA
  obtain ⟨hj,rfl⟩:=BN hd;refine ⟨rfl,rfl,?_⟩;refine ⟨_,rfl,di (λ_ ρ=>∃o3,ρ= [some (aM w'),some (.int (j:Int)),some (ai (row w' j)),o3]) ⟨_,rfl⟩ ?_ ?_⟩
  ·rintro k d' _ hk ⟨o4,rfl⟩ A' zG
   obtain ⟨x,hx,rfl⟩:=eV hk;have OU:=gD hx;have b4:x<w'.length:=g.rng _ _ OU;refine ⟨_,rfl,_,rfl,_,rfl,_,gN (tZ b4),rfl,b6 _,_,rfl,?_⟩
   have e:inD (.int (j:Int)) ((row w' x).map af)=true:=by
    have:=g7 (r:=row w' x) (p:=j)
    rw [decide_eq_true (g.sym _ _ OU)] at this;exact this
   rw [if_pos rfl,e];exact cy (zG _ ⟨_,rfl⟩)
  ·rintro _ ⟨o4,rfl⟩
   exact hA _ ⟨_,_,_,rfl⟩
 ·rintro _ ⟨o1,o2,o3,rfl⟩
  exact q
def rW(bs:List Bool):List D:=bs.map D.bl
theorem Du{bs:List Bool}{i:Nat}{b:Bool}(h:bs[i]? =some b):(rW bs)[i]? =some (.bl b):=by unfold rW;rw [eJ,h];rfl
theorem xN(bs:List Bool)(i:Nat)(b:Bool):(rW bs).set i (.bl b)=rW (bs.set i b):=by unfold rW;rw [List.map_set]
theorem xM(bs:List Bool):(rW bs).length=bs.length:=aJ _
theorem i9{n k:Nat}(h:k<n):mU n (k:Int)=some k:=by unfold mU;rw [if_pos (by omega),if_pos (by omega)];simp
def AL:cZ:=λds P=>∃(w:W),ds= [aM w]∧Good w∧1≤w.length∧w.length≤14∧P (.lst (rW (List.replicate w.length true)))
theorem jH:FnOk P w Z.K mg base cE 1 T.d_reached_from_first.f T.d_reached_from_first.fd ["rows"] (aV Z AL):=by
 have nd:=fz.nd;refine bo T.d_reached_from_first.F fz [0,1,1,0,0] (by decide) (λds R h=>by obtain ⟨_,rfl,_⟩:=h;rfl) (λbz A outer s H E ds R hr h=>?_)
 have hu:=hr.units
 refine ⟨_,(ah (uR 1 (NC:= ["row"]) (src:= [none]) rfl nd (qN (au cB)) trivial (cx (aa 0)) (λ_ _ _=>(cw 0 (show (["row"]:List Str).Nodup from by decide+kernel))) (λ_ _ _=>eT) (λ_ _ _=>pJ))
   (ah (uS false 1 ar pJ)
   (ah (rz 2 nd (rm (ab ar ag)))
   (ah (uU PassesOwn.never (iu (aa 2)) (ah (wj 3 2 nd)
   (ao (fk rfl PassesOwn.never (cx (bC (aa 0) (aa 3))) (aL 4 nd) (ao (bT (lH (iu (bC (aa 1) (aa 4)))) (ah (uS false 1 (aa 4) pJ)
   (ao (Ba false 2 (aa 4)))) ba))))))
   (ao (aI (aa 1))))))),?_⟩
 obtain ⟨w',rfl,g,h1,bw,q⟩:=h;refine ⟨_,rfl,jC (ρ:= [none]) ai (λ_=> .bl false) w' _ (λy hy Y h=>h) rfl (small (by omega)) λaA=>?_⟩
 have e0:w'.map (λ_=>D.bl false)=rW (List.replicate w'.length false):=by unfold rW;rw [List.map_replicate,List.map_const']
 rw [e0];refine ⟨trivial,_,rfl,0,0,rfl,by rw [xM,vG];exact i9 (k:=0) (by omega),?_⟩
 rw [xN];refine ⟨by show 1≤sizeLine;decide,?_⟩
 refine t4 (λm ρ=>∃(bs:List Bool)(ws:List Nat)(o3 o4:Option D),ρ= [some (aM w'),some (.lst (rW bs)),some (.lst (ws.map af)),o3,o4]∧RI w' bs ws [] m∧m≤14∧bs.count false+ws.length=m) w'.length ?_ ?_
 ·refine ⟨_,[0],none,none,rfl,⟨by simp,?_,?_,λx hx=>?_,?_⟩,bw,?_⟩
  ·rw [qJ,if_pos rfl,if_pos (by rw [vG];omega)]
  ·intro x hx
   have:x=0:=by simpa using hx
   rw [this,qJ,if_pos rfl,if_pos (by rw [vG];omega)]
  ·by_cases e:0=x
   ·exact .inl (by rw [←e];simp)
   ·rw [qJ,if_neg e,BP] at hx
    split at hx<;>cases hx
  ·rw [List.count_set (by rw [vG];omega),List.count_replicate_self,List.getElem_replicate]
   simp;omega
  ·rw [List.count_set (by rw [vG];omega),List.count_replicate_self,List.getElem_replicate]
   simp;omega
 ·rintro m _ ⟨bs,ws,o3,o4,rfl,ri,hc,Ot⟩
  refine ⟨_,rfl,rfl,?_⟩
  rcases xp ws with rfl| ⟨pd,p,e⟩
  ·refine cy ?_
   have e:=ri.all g;rw [←e] at q;exact ⟨_,rfl,q⟩
  ·rw [ze] at e
   subst e;rw [show vE (.lst ((pd++ [p]).map af))=true by simp [vE]]
   refine cD ?_;rw [cj] at Ot;simp only [uc] at Ot;obtain ⟨c',rfl⟩:∃c',m=c'+1:=⟨m-1,by omega⟩
   have W9:=ri.pop;have hp:bs[p]? =some true:=ri.wt p (by simp)
   have Ul:p<w'.length:=by rw [←ri.len];exact (fC.mp hp).1
   refine ⟨pd.map af,af p,by rw [dJ];rfl,?_⟩
   refine ⟨_,rfl,_,rfl,_,gN (tZ Ul),di (λj ρ=>∃(nF:List Bool)(uI:List Nat)(o4:Option D),ρ= [some (aM w'),some (.lst (rW nF)),some (.lst (uI.map af)),some (af p),o4]∧RI w' nF uI [p] c'∧(∀k y,k<j→(row w' p)[k]? =some y→nF[y]? =some true)∧nF.count false+uI.length=c') ?_ ?_ ?_⟩
   ·exact ⟨bs,pd,_,rfl,W9,(λk n hk=>by omega),by omega⟩
   ·rintro j x _ hx ⟨nF,uI,o5,rfl,FD,A9,JG⟩ A hA
    obtain ⟨n,hn,rfl⟩:=eV hx;have Ud:=g.rng _ _ (gD hn);have K6:n<nF.length:=by rw [FD.len];exact Ud
    have Ek:nF[n]? =some (nF[n]):=bq K6;refine ⟨_,rfl,_,rfl,_,gN (Du Ek),rfl,?_⟩;generalize nF[n]=bn at Ek;cases bn with
    |true=>
     refine cy (hA _ ⟨nF,uI,_,rfl,FD,λk y hk hy=>?_,JG⟩)
     by_cases e:k=j
     ·rw [e,hn] at hy;cases hy;exact Ek
     ·exact A9 k y (by omega) hy
    |false=>
     refine cD ?_;refine ⟨trivial,_,rfl,_,rfl,_,n,rfl,by rw [xM];exact i9 K6,?_⟩
     rw [xN];have HL:=FD.push Ek;have XF:=HL.cnt;refine ⟨_,rfl,_,rfl,trivial,jP (by rw [aJ];omega),?_⟩
     have er:uI.map af++ [af n]=(uI++ [n]).map af:=by rw [dJ];rfl
     rw [er];refine hA _ ⟨nF.set n true,uI++ [n],_,rfl,HL,λk y hk hy=>?_,?_⟩
     ·rw [qJ]
      by_cases e:n=y
      ·rw [if_pos e,if_pos K6]
      ·rw [if_neg e]
       refine A9 k y ?_ hy;apply Classical.byContradiction;intro z
       have:k=j:=by omega
       rw [this,hn] at hy;cases hy;exact e rfl
     ·obtain ⟨hl,he⟩:=fC.mp Ek
      have:0<nF.count false:=List.count_pos_iff.mpr (by rw [←he];exact mH hl)
      rw [List.count_set hl,he,cj];simp;omega
   ·rintro _ ⟨nF,uI,o5,rfl,FD,A9,JG⟩
    have HL:=FD.close λy hy=>by
     obtain ⟨k,hk⟩:=zf hy;exact A9 k y (by rw [aJ];exact (fC.mp hk).1) hk
    exact ⟨c',by omega,nF,uI,_,_,rfl,HL,by omega,JG⟩
theorem qW:FnOk P w Z.K mg base cE 2 T.d_apart_fault.f T.d_apart_fault.fd ["rows"] (aV Z lM):=by
 have nd:=jX.nd;refine bo T.d_apart_fault.F jX [0,0,0] (by decide) (λds R h=>by obtain ⟨_,rfl,_⟩:=h;rfl) (λbz A outer s H E ds R hr h=>?_)
 have hu:=hr.units
 refine ⟨_,(ah (fk rfl PassesOwn.never (gZ rfl T.B.enumerate (ab (az T.d_reached_from_first (jH T) hr (ab (aa 0) ag)) ag)) (eZ 2 rfl (aY (aL 1 nd) (aY (aL 2 nd) cH))) (ao (bT (lH (iu (aa 2))) (ao (aI (ee (ab nO (ab ar (ab (aa 1) ag)))))) ba)))
   (ao (aI cJ))),?_⟩
 obtain ⟨w',rfl,g,h1,bw,q⟩:=h;refine ⟨_,rfl,w',rfl,g,h1,bw,di (λ_ ρ=>∃o1 o2,ρ= [some (aM w'),o1,o2]) ⟨_,_,rfl⟩ ?_ ?_⟩
 ·rintro j d _ hd ⟨o1,o2,rfl⟩ A hA
  obtain ⟨y,hy,rfl⟩:=jy hd
  have ey:y= .bl true:=by
   obtain ⟨b,hb,rfl⟩:=eV hy
   have:=gD hb
   rw [List.mem_replicate] at this;rw [this.2]
  subst ey;refine ⟨rfl,rfl,?_⟩;exact ⟨_,rfl,rfl,cy (hA _ ⟨_,_,rfl⟩)⟩
 ·rintro _ ⟨o1,o2,rfl⟩
  exact q
theorem jU:FnOk P w Z.K mg base cE 3 T.d_first_fault.f T.d_first_fault.fd ["rows"] (aV Z lM):=by
 have nd:=jY.nd;refine bo T.d_first_fault.F jY [0,0] (by decide) (λds R h=>by obtain ⟨_,rfl,_⟩:=h;rfl) (λbz A outer s H E ds R hr h=>?_)
 have hu:=hr.units
 refine ⟨_,(ah (aE false 1 nd (az T.d_alien_fault (qV T) hr (ab (aa 0) ag)))
   (ah (bT (bg m6 (aa 1) cJ (bp _)) (ao (aE false 1 nd (az T.d_self_fault (tF T) hr (ab (aa 0) ag)))) ba)
   (ah (bT (bg m6 (aa 1) cJ (bp _)) (ao (aE false 1 nd (az T.d_twice_fault (qX T) hr (ab (aa 0) ag)))) ba)
   (ah (bT (bg m6 (aa 1) cJ (bp _)) (ao (aE false 1 nd (az T.d_lone_fault (tE T) hr (ab (aa 0) ag)))) ba)
   (ah (bT (bg m6 (aa 1) cJ (bp _)) (ao (aE false 1 nd (az T.d_apart_fault (qW T) hr (ab (aa 0) ag)))) ba)
   (ao (aI (aa 1)))))))),?_⟩
 obtain ⟨w',rfl,g,h1,bw,q⟩:=h;have no:∀(u:dD)(E:gf)(ρ:DN)(te:aS),ρ[1]? =some (some .aZ)→E.nx ρ→IS (we (BY (DJ false) (IV 1) (dC .aZ))) u DL E ρ→True:=λ_ _ _ _ _ _ _=>trivial;refine ⟨_,rfl,w',rfl,g,h1,bw,trivial,?_⟩;refine ⟨_,rfl,_,rfl,cD ⟨_,rfl,w',rfl,g,h1,bw,trivial,?_⟩⟩;refine ⟨_,rfl,_,rfl,cD ⟨_,rfl,w',rfl,g,h1,bw,trivial,?_⟩⟩;refine ⟨_,rfl,_,rfl,cD ⟨_,rfl,w',rfl,g,h1,bw,trivial,?_⟩⟩;refine ⟨_,rfl,_,rfl,cD ⟨_,rfl,w',rfl,g,h1,bw,trivial,?_⟩⟩;exact ⟨_,rfl,q⟩
theorem pX{P:Program}{w:World}{mg:Str→Option Value}{base:Heap}{Z:DC}(T:Txt Z mg):FnOk P w Z.K mg base cE 4 T.i_f T.i_fd ["self","turns"] (yU Z):=by
 have Ef:=jU (P:=P) (w:=w) (base:=base) T;have nd:=jl.nd;refine T.i_F.ok jl (λvs H Q E h=>?_) (λbz A outer s H vs Q E hr h=>?_)
 ·obtain ⟨p,dx,v,G,w',rfl,_⟩:=h;rfl
 obtain ⟨p,dx,v,G,w',rfl,hp,sG,gp,dv,g,h1,bw,q⟩:=h;have hu:=hr.units
 refine ⟨_,jj (t:=mY Z [0,0,0,0] 0 _)
   (bT (lH (B5 Aj Aj ar (ax aO rfl T.B.len aN (ab (aa 1) ag)) (B2 rfl T.c_MOST_POINTS))) (ao uQ) ba)
  (jj (t:=mY Z [0,0,0,0] 0 _)
   (uT 2 (NC:= ["row"]) (src:= [none]) rfl nd (qN (au dk)) trivial (cx (aa 1)) (λ_ _ _=>(cw 0 (show (["row"]:List Str).Nodup from by decide+kernel))) (λ_ _ _=>eT) (λ_ _ _=>(jw nG rfl T.B.list kv (ab (aa 0) ag))))
  (jj (t:=mY Z [0,0,0,0] 0 _)
   (aE false 3 nd (az T.d_first_fault (jU T) hr (ab (aa 2) ag)))
  (jj (t:=mY Z [0,0,0,0] 0 _)
   (bT (bg CA (aa 3) cJ (bp _)) (ao uQ) ba)
  (yJ (HG (pv 0) (pv 2) rfl))))),?_⟩
 have lw:(w'.map ai).length=w'.length:=aJ _;refine ⟨⟨G,H,G⟩,[some (.obj p),some (aM w'),none,none],{nx:=λρ=>ρ= [some (.obj p),some (aM w'),none,none],rt:=λ_=>False},⟨G,λ_=> [],?_⟩,?_,⟨?_,λ_ z=>z.elim,λ_ z=>z.elim,λ_ z=>z.elim⟩⟩
 ·refine ⟨.refl sG, .refl _,rfl,λi d hi=>?_,λ_=>j8,(λ_ _ _ _ z=>by cases z),(λ_ _ z=>by cases z)⟩
  match i,hi with
  |0,hi=>cases hi;exact ⟨_,rfl, .obj p,rfl⟩
  |1,hi=>cases hi;exact ⟨_,rfl,dv,rfl⟩
  |2,hi=>cases hi
  |3,hi=>cases hi
  |i+4,hi=>cases hi
 ·have e1:D.bl (decide ((1:Int)≤((w'.map ai).length:Int)))= .bl true:=congrArg D.bl (decide_eq_true (by rw [lw];omega))
  have e2:D.bl (decide (((w'.map ai).length:Int)≤14))= .bl true:=congrArg D.bl (decide_eq_true (by rw [lw];omega))
  exact ⟨_,rfl,true,e1,cD ⟨true,e2,cy rfl⟩⟩
 rintro _ rfl AW H1 S1;refine ⟨⟨G,H,G⟩,_,{nx:=λρ=>ρ= [some (.obj p),some (aM w'),some (aM w'),none],rt:=λ_=>False},S1,?_,⟨?_,λ_ z=>z.elim,λ_ z=>z.elim,λ_ z=>z.elim⟩⟩
 ·exact ⟨_,rfl,jC (ρ:= [none]) ai ai w' _ (λy hy Y h=>⟨_,rfl,h⟩) rfl (small (by omega)) λaA=>⟨trivial,rfl⟩⟩
 rintro _ rfl dE H2 S2;refine ⟨⟨G,H,G⟩,_,{nx:=λρ=>ρ= [some (.obj p),some (aM w'),some (aM w'),some .aZ],rt:=λ_=>False},S2,?_,⟨?_,λ_ z=>z.elim,λ_ z=>z.elim,λ_ z=>z.elim⟩⟩
 ·exact ⟨_,rfl,w',rfl,g,h1,bw,trivial,rfl⟩
 rintro _ rfl rg H3 S3;refine ⟨⟨G,H,G⟩,_,{nx:=λρ=>ρ= [some (.obj p),some (aM w'),some (aM w'),some .aZ],rt:=λ_=>False},S3,?_,⟨?_,λ_ z=>z.elim,λ_ z=>z.elim,λ_ z=>z.elim⟩⟩
 ·exact ⟨_,rfl,_,rfl,cy rfl⟩
 rintro _ rfl dO H4 ⟨G4,fp,S4⟩;obtain ⟨v0,Ez,o0⟩:=S4.at_ 0 _ rfl;obtain ⟨v2,Ur,o2⟩:=S4.at_ 2 _ rfl;obtain ⟨d0,_⟩:=o0;obtain ⟨d2,_⟩:=o2;cases d0;have SO:=d2;cases d2 with
 | @lst R xs ds hR e=>
  have Uj:=S4.ex.hh _ _ hp;refine ⟨_,Ur,_,Ez,p,Z.C,dx,[],rfl,Uj,T.W.cl,T.W.nR,by decide,?_⟩
  have g4:G4 p=none:=S4.ex.off p (by show H p≠none;rw [hp];exact λz=>nomatch z) gp
  refine q R G4 _ S4.ex.gg (λb o eb=>?_) (λb o eb nb=>?_) S4.ex.off aw SO
  ·rw [aC (aP eb g4)];exact S4.ex.sub _ _ eb
  ·rw [aC nb];exact S4.ex.hh _ _ eb
def FU:cZ:=λds P=>∃(w:W),ds= [.dN w]∧w.length≤14∧P (aM w)
theorem mj:FnOk P w Z.K mg base cE 1 T.m_turns.f T.m_turns.fd ["self"] (aV Z FU):=by
 have nd:=mw.nd;refine bo T.m_turns.F mw [0] (by decide) (λds R h=>by obtain ⟨_,rfl,_⟩:=h;rfl) (λbz A outer s H E ds R hr h=>?_)
 have hu:=hr.units;refine ⟨_,(ao (aI (sr (NC:= ["row"]) (src:= [none]) rfl (qN (au gM)) trivial (cx (su T.W (aa 0))) (λ_ _ _=>(cw 0 (show (["row"]:List Str).Nodup from by decide+kernel))) (λ_ _ _=>eT) (λ_ _ _=>(jw nG rfl T.B.list kv (ab (aa 0) ag)))))),?_⟩
 obtain ⟨w',rfl,bw,q⟩:=h;exact ⟨_,rfl,w',rfl,jC (ρ:= [none]) ai ai w' _ (λy hy Y h=>⟨_,rfl,h⟩) rfl (small (by omega)) λaA=>q⟩
end mK
namespace Wb
theorem bF{a b:List Nat}{x y:Nat}(nd:(a++x::y::b).Nodup):ae (a++x::y::b) x=y:=by
 have hx:x∉a:=λh=>by
  have:=(dX.mp nd).2.2 x h x (bP ..)
  exact this rfl
 have e:(a++x::y::b).idxOf x=a.length:=by
  rw [List.idxOf_append,if_neg hx,List.idxOf_cons_self];simp
 unfold ae;rw [e,kY (by simp),aK,fA (by omega)]
 simp
theorem cM{b:List Nat}{x y:Nat}(nd:(y::(b++ [x])).Nodup):ae (y::(b++ [x])) x=y:=by
 have hx:x∉y::b:=λh=>by
  have h2:(y::b++ [x]).Nodup:=nd;exact (dX.mp h2).2.2 x h x (by simp) rfl
 have e:(y::(b++ [x])).idxOf x=b.length+1:=by
  show (y::b++ [x]).idxOf x=_;rw [List.idxOf_append,if_neg hx];simp
 unfold ae;rw [e]
 have:(b.length+1+1)%(y::(b++ [x])).length=0:=by simp
 rw [this];rfl
theorem e7{a b:List Nat}{x:Nat}(nd:(a++b).Nodup)(h:x∈a++b):ae (b++a) x=ae (a++b) x:=by
 have jb:(b++a).Nodup:=(List.perm_append_comm.nodup_iff).mp nd;obtain ⟨u,v,e⟩:=List.append_of_mem h;cases v with
 |cons y v=>
  rw [e,bF (e▸nd)]
  rcases List.append_eq_append_iff.mp e with ⟨c,h1,h2⟩ | ⟨c,h1,h2⟩
  ·
   rw [h2,show c++x::y::v++a=c++x::y::(v++a) by simp]
   refine bF ?_;rw [h2] at jb;simpa using jb
  ·
   cases c with
   |nil=>
    have hb:b=x::y::v:=by simpa using h2.symm
    rw [hb,show x::y::v++a= []++x::y::(v++a) by simp]
    refine bF ?_;rw [hb] at jb;simpa using jb
   |cons z c=>
    have hz:x=z∧y::v=c++b:=by simpa using h2
    obtain ⟨rfl,h3⟩:=hz;cases c with
    |nil=>
     have hb:b=y::v:=by simpa using h3.symm
     rw [h1,hb,show y::v++(u++ [x])=y::((v++u)++ [x]) by simp]
     refine cM ?_;rw [h1,hb] at jb;simpa using jb
    |cons z c=>
     have hz:y=z∧v=c++b:=by simpa using h3
     obtain ⟨rfl,rfl⟩:=hz;rw [h1,show b++(u++x::y::c)=(b++u)++x::y::c by simp]
     refine bF ?_;rw [h1] at jb;simpa using jb
 |nil=>
  cases b with
  |nil=>simp
  |cons y b=>
   rcases xp b with rfl| ⟨b',z,rfl⟩
   ·
    have:a=u∧y=x:=by
     have:=List.append_inj' e rfl
     exact ⟨this.1,by simpa using this.2⟩
    obtain ⟨rfl,rfl⟩:=this;cases a with
    |nil=>rfl
    |cons t a=>
     have e1:ae (t::a++ [y]) y=t:=cM (b:=a) nd;rw [e1];show ae ([]++y::t::a) y=t;exact bF (by simpa using jb)
   ·have hx:z=x:=by
     rw [ze] at e;have e:(a++y::b')++ [z]=u++ [x]:=by simpa using e
     exact by simpa using (List.append_inj' e rfl).2
    subst hx;rw [ze] at nd jb ⊢;cases a with
    |nil=>simp
    |cons t a=>
     have e1:ae (t::a++y::(b'++ [z])) z=t:=by
      have:=cM (y:=t) (b:=a++y::b') (x:=z) (by simpa using nd)
      simpa using this
     have e2:ae (y::(b'++ [z])++t::a) z=t:=by
      have:=bF (a:=y::b') (x:=z) (y:=t) (b:=a) (by simpa using jb)
      simpa using this
     rw [e1,e2]
structure Disc (w:W) (R:List Nat) (A:Nat×Nat→Prop):Prop where
 nd:R.Nodup
 len:3≤R.length
 dart:∀d,A d→aF w d
 face:∀d,aF w d→(A d↔A (aW w d))
 tri:∀d,A d→aW w (aW w (aW w d))=d
 ring:∀p∈R,aF w (ae R p,p)∧A (ae R p,p)∧¬A (p,ae R p)
 sym:∀p q,aF w (p,q)→¬(p∈R∧q=ae R p)→¬(q∈R∧p=ae R q)→(A (p,q)↔A (q,p))
structure RG (w:W) (v:Nat) (m:Nat) (y:Nat→Nat):Prop where
 on:∀k,k<m→ae (row w v) (y k)=y (k+1)
 mem:∀k,k≤m→y k∈row w v
 inj:∀i j,i≤m→j≤m→y i=y j→i=j
 pos:1≤m
structure At (w:W) (R:List Nat) (v:Nat) (m:Nat) (y:Nat→Nat):Prop where
 fan:RG w v m y
 vm:v∈R
 nx:y 0=ae R v
 pm:y m∈R
 pv:ae R (y m)=v
theorem aD{l:List Nat}{i:Nat}(nd:l.Nodup)(h:i+1<l.length):ae l (l.getD i 0)=l.getD (i+1) 0:=by
 have e:l.getD i 0=l[i]:=by rw [aK,bq (by omega)];rfl
 unfold ae;rw [e,nd.idxOf_getElem i (by omega),kY h]
theorem aX{l:List Nat}{i:Nat}(nd:l.Nodup)(h:i+1=l.length):ae l (l.getD i 0)=l.getD 0 0:=by
 have e:l.getD i 0=l[i]:=by rw [aK,bq (by omega)];rfl
 unfold ae;rw [e,nd.idxOf_getElem i (by omega),h,nE]
section
variable {w:W} {R:List Nat} {A:Nat×Nat→Prop} {v m:Nat} {y:Nat→Nat}
theorem At.ne(g:Good w)(F:At w R v m y){k:Nat}(hk:k≤m):y k≠v:=λe=>g.irr v (by have:=F.fan.mem k hk;rw [e] at this;exact this)
theorem At.dart(g:Good w)(F:At w R v m y){k:Nat}(hk:k≤m):aF w (y k,v):=g.sym _ _ (F.fan.mem k hk)
theorem At.yz(F:At w R v m y){k:Nat}(hk:k<m):aW w (y k,v)=(v,y (k+1)):=by
 show (v,ae (row w v) (y k))=_;rw [F.fan.on k hk]
theorem At.ym(D:Disc w R A)(F:At w R v m y){k:Nat}(hk:k≤m)(hR:y k∈R)(e:v=ae R (y k)):k=m:=by
 have:=F.pv
 rw [e] at this;exact F.fan.inj k m hk (bh _) (cR D.nd hR F.pm this.symm)
theorem At.y0(F:At w R v m y){k:Nat}(hk:k≤m)(e:y k=ae R v):k=0:=F.fan.inj k 0 hk (b9 _) (by rw [e,F.nx])
theorem At.yi(g:Good w)(D:Disc w R A)(F:At w R v m y):∀k,k<m→A (y k,v)∧A (v,y (k+1))
 |0,h=>by
  have a:A (y 0,v):=by rw [F.nx];exact (D.ring v F.vm).2.1
  refine ⟨a,?_⟩
  have:=(D.face _ (F.dart g (b9 _))).mp a
  rw [F.yz h] at this;exact this
 |k+1,h=>by
  have ih:=(F.yi g D k (by omega)).2
  have a:A (y (k+1),v):=by
   refine (D.sym v (y (k+1)) (F.fan.mem (k+1) (by omega)) (λz=>?_) (λz=>?_)).mp ih
   ·have:=F.y0 (by omega) z.2;omega
   ·have:=F.ym D (by omega) z.1 z.2;omega
  refine ⟨a,?_⟩
  have:=(D.face _ (F.dart g (by omega))).mp a
  rw [F.yz h] at this;exact this
theorem At.yA(g:Good w)(D:Disc w R A)(F:At w R v m y){k:Nat}(hk:k<m):aW w (v,y (k+1))=(y (k+1),y k)∧aW w (y (k+1),y k)=(y k,v)∧A (y (k+1),y k):=by
 have a:=F.yi g D k hk;have t:=D.tri _ a.1;rw [F.yz hk] at t
 have e:aW w (v,y (k+1))=(y (k+1),y k):=by
  have h1:(aW w (aW w (v,y (k+1)))).1=y k:=by rw [t]
  show (y (k+1),ae (row w (y (k+1))) v)=_;exact congrArg (Prod.mk _) h1
 refine ⟨e,by rw [e] at t;exact t,?_⟩
 have:=(D.face _ (D.dart _ a.2)).mp a.2
 rw [e] at this;exact this
def bS(v m:Nat)(y:Nat→Nat)(d:Nat×Nat):Prop:=∃k,k<m∧(d=(y k,v)∨d=(v,y (k+1))∨d=(y (k+1),y k))
theorem At.Rv(g:Good w)(D:Disc w R A)(F:At w R v m y){d:Nat×Nat}(h:bS v m y d):A d:=by
 obtain ⟨k,hk,h⟩:=h;have a:=F.yi g D k hk;have b:=(F.yA g D hk).2.2
 rcases h with rfl|rfl|rfl
 ·exact a.1
 ·exact a.2
 ·exact b
theorem At.Jx(g:Good w)(D:Disc w R A)(F:At w R v m y){d:Nat×Nat}(hd:aF w d):bS v m y d↔bS v m y (aW w d):=by
 constructor
 ·rintro ⟨k,hk,h⟩
  have b:=F.yA g D hk;refine ⟨k,hk,?_⟩
  rcases h with rfl|rfl|rfl
  ·rw [F.yz hk];exact .inr (.inl rfl)
  ·rw [b.1];exact .inr (.inr rfl)
  ·rw [b.2.1];exact .inl rfl
 ·rintro ⟨k,hk,h⟩
  have b:=F.yA g D hk;have a:=F.yi g D k hk;refine ⟨k,hk,?_⟩
  rcases h with h|h|h
  ·exact .inr (.inr (jd g hd (D.dart _ b.2.2) (by rw [h,b.2.1])))
  ·exact .inl (jd g hd (D.dart _ a.1) (by rw [h,F.yz hk]))
  ·exact .inr (.inl (jd g hd (D.dart _ a.2) (by rw [h,b.1])))
def cg(pre:List Nat)(m:Nat)(y:Nat→Nat):List Nat:=pre++(List.range m).map λi=>y (m-i)
theorem g8(pre:List Nat)(m:Nat)(y:Nat→Nat):(cg pre m y).length=pre.length+m:=by unfold cg;simp
theorem pR{pre:List Nat}{m i:Nat}{y:Nat→Nat}(h:i<pre.length):(cg pre m y).getD i 0=pre.getD i 0:=by
 unfold cg;rw [aK,dH h,←aK]
theorem pQ{pre:List Nat}{m i:Nat}{y:Nat→Nat}(h:i<m):(cg pre m y).getD (pre.length+i) 0=y (m-i):=by
 unfold cg;rw [aK,fA (by omega),show pre.length+i-pre.length=i by omega,eJ,xr h];rfl
theorem bD{pre:List Nat}{m p:Nat}{y:Nat→Nat}:p∈cg pre m y↔p∈pre∨∃k,1≤k∧k≤m∧p=y k:=by
 unfold cg;rw [cq,cT]
 constructor
 ·rintro (h| ⟨i,hi,rfl⟩)
  ·exact .inl h
  ·have:=cm.mp hi
   exact .inr ⟨m-i,by omega,by omega,rfl⟩
 ·rintro (h| ⟨k,h1,h2,rfl⟩)
  ·exact .inl h
  ·exact .inr ⟨m-k,cm.mpr (by omega),by rw [show m-(m-k)=k by omega]⟩
theorem sX(g:Good w)(D:Disc w R A)(F:At w R v m y){pre:List Nat}(hR:R=pre++ [y m,v])(h0:pre.getD 0 0=y 0)(hp:pre≠ [])(sM:∀k,0<k→k<m→y k∉R)(hl:3≤pre.length+m):
  Disc w (cg pre m y) λd=>A d∧¬bS v m y d:=by
 have kg:=D.nd;have lR:R.length=pre.length+2:=by rw [hR];simp
 have BA:0<pre.length:=ue.mpr hp;have tJ:∀p∈pre,p∈R:=λp h=>by rw [hR];exact dW _ h
 have Wt:pre.Nodup:=by rw [hR] at kg;exact (dX.mp kg).1
 have pv:∀p∈pre,p≠v∧p≠y m:=λp h=>by
  rw [hR] at kg
  have:=(dX.mp kg).2.2 p h
  exact ⟨this v (by simp),this (y m) (by simp)⟩
 have m0:y 0∈pre:=by
  rw [←h0,aK,bq BA];exact mH BA
 have out:∀k,1≤k→k≤m→y k∉pre:=λk h1 h2 hk=>by
  by_cases e:k=m
  ·subst e;exact (pv _ hk).2 rfl
  ·exact sM k (by omega) (by omega) (tJ _ hk)
 have qT:(cg pre m y).Nodup:=by
  unfold cg;refine dX.mpr ⟨Wt,?_,λa ha b hb e=>?_⟩
  ·unfold List.Nodup
   rw [js];refine List.Pairwise.imp_of_mem (λ {i j} hi hj h e=>?_) lq
   have:=cm.mp hi
   have:=cm.mp hj
   have:=F.fan.inj (m-i) (m-j) (by omega) (by omega) e
   omega
  ·obtain ⟨i,hi,rfl⟩:=cT.mp hb
   have:=cm.mp hi
   subst e;exact out (m-i) (by omega) (by omega) ha
 have Bf:∀i,i<pre.length→R.getD i 0=pre.getD i 0:=λi hi=>by
  rw [hR,aK,dH hi,←aK]
 have Ku:R.getD pre.length 0=y m:=by
  rw [hR,aK,fA (bh _)];simp
 have Jr:∀p∈pre,ae (cg pre m y) p=ae R p:=λp h=>by
  obtain ⟨i,hi,rfl⟩:=eX.mp h;have e:pre[i]=pre.getD i 0:=by rw [aK,bq hi];rfl
  have l1:ae R (R.getD i 0)=R.getD (i+1) 0:=aD kg (by omega)
  have mp:=F.fan.pos;have l2:ae (cg pre m y) ((cg pre m y).getD i 0)=(cg pre m y).getD (i+1) 0:=aD qT (by rw [g8];omega)
  rw [Bf i hi] at l1;rw [pR hi] at l2;rw [e,l1,l2]
  by_cases c:i+1<pre.length
  ·rw [pR c,Bf _ c]
  ·have c:i+1=pre.length:=by omega
   have:=pQ (pre:=pre) (y:=y) (m:=m) (i:=0) (by omega)
   rw [c,Ku];simpa using this
 have sY:∀k,1≤k→k≤m→ae (cg pre m y) (y k)=y (k-1):=λk h1 h2=>by
  have e1:=pQ (pre:=pre) (y:=y) (m:=m) (i:=m-k) (by omega)
  rw [show m-(m-k)=k by omega] at e1
  rw [←e1]
  by_cases c:k=1
  ·rw [aX qT (by rw [g8];omega),pR BA,h0,c]
  ·rw [aD qT (by rw [g8];omega)]
   have e2:=pQ (pre:=pre) (y:=y) (m:=m) (i:=m-k+1) (by omega)
   rw [show pre.length+(m-k)+1=pre.length+(m-k+1) by omega,e2,show m-(m-k+1)=k-1 by omega]
 have three:m=1→ae R (y 0)≠y 1:=λhm e=>by
  have e0:R.getD 0 0=y 0:=by rw [Bf 0 BA,h0]
  have s0:=aD kg (i:=0) (by omega)
  rw [e0,e] at s0
  by_cases c:1<pre.length
  ·rw [Bf 1 c] at s0
   have:y 1∈pre:=by rw [s0,aK,bq c];exact mH c
   exact out 1 (by omega) (by omega) this
  ·omega
 have Rb:∀k,1≤k→k≤m→A (y (k-1),y k):=λk h1 h2=>by
  have b:=F.yA g D (k:=k-1) (by omega)
  rw [show k-1+1=k by omega] at b
  have ik:∀i,i≤m→y i∈R→i=0∨i=m:=λi hi h=>by
   by_cases c:0<i∧i<m
   ·exact absurd h (sM i c.1 c.2)
   ·omega
  refine (D.sym _ _ (D.dart _ b.2.2) (λz=>?_) (λz=>?_)).mp b.2.2
  ·have r2:y (k-1)∈R:=by rw [z.2];exact bc z.1
   have i1:=ik k h2 z.1;have i2:=ik (k-1) (by omega) r2
   have hm:m=1:=by omega
   have hk:k=1:=by omega
   subst hk;have e:=z.2;have p:=F.pv;rw [hm] at p;rw [p] at e;exact F.ne g (k:=0) (b9 _) e
  ·have r2:y k∈R:=by rw [z.2];exact bc z.1
   have i1:=ik k h2 r2;have i2:=ik (k-1) (by omega) z.1
   have hm:m=1:=by omega
   have hk:k=1:=by omega
   subst hk;exact three hm z.2.symm
 refine ⟨qT,by rw [g8];exact hl,λd h=>D.dart d h.1,λd hd=>?_,λd h=>D.tri d h.1,λp iL=>?_,λp q hd n1 n2=>?_⟩
 ·rw [D.face d hd,F.Jx g D hd]
 ·rcases bD.mp iL with h| ⟨k,h1,h2,rfl⟩
  ·rw [Jr p h]
   have r:=D.ring p (tJ p h);refine ⟨r.1,⟨r.2.1,?_⟩,λz=>r.2.2 z.1⟩;rintro ⟨k,hk,e|e|e⟩
   ·exact (pv p h).1 (congrArg Prod.snd e)
   ·have:ae R p=v:=congrArg Prod.fst e
    have e2:=congrArg Prod.snd e;exact out (k+1) (by omega) (by omega) (by rw [←(show p=y (k+1) from e2)];exact h)
   ·have e1:ae R p=y (k+1):=congrArg Prod.fst e
    have e2:p=y k:=congrArg Prod.snd e
    have k0:k=0:=by
     by_cases c:k=0
     ·exact c
     ·exact absurd (e2▸h) (out k (by omega) (by omega))
    subst k0
    have:y 1∈R:=by rw [←(show ae R p=y 1 from e1)];exact bc (tJ p h)
    have hm:m=1:=by
     by_cases c:1<m
     ·exact absurd this (sM 1 (by omega) c)
     ·omega
    rw [e2] at e1;exact three hm e1
  ·rw [sY k h1 h2]
   have a:=Rb k h1 h2;refine ⟨D.dart _ a,⟨a,?_⟩,λz=>z.2 ⟨k-1,by omega, .inr (.inr (by rw [show k-1+1=k by omega]))⟩⟩
   rintro ⟨j,hj,e|e|e⟩
   ·exact F.ne g (k:=k) h2 (congrArg Prod.snd e)
   ·exact F.ne g (k:=k-1) (by omega) (congrArg Prod.fst e)
   ·have e1:=F.fan.inj (k-1) (j+1) (by omega) (by omega) (congrArg Prod.fst e)
    have e2:=F.fan.inj k j (by omega) (by omega) (congrArg Prod.snd e)
    omega
 ·
  have one:∀p q,aF w (p,q)→¬(p∈cg pre m y∧q=ae (cg pre m y) p)→¬(q∈cg pre m y∧p=ae (cg pre m y) q)→(A (p,q)∧¬bS v m y (p,q))→(A (q,p)∧¬bS v m y (q,p)):=by
   intro p q hd n1 n2 ⟨a,nt⟩;have r1:¬(p∈R∧q=ae R p):=λz=>(D.ring p z.1).2.2 (by rw [←z.2];exact a)
   have r2:¬(q∈R∧p=ae R q):=λz=>by
    have hq:=z.1;rw [hR] at hq
    rcases cq.mp hq with h|h
    ·exact n2 ⟨bD.mpr (.inl h),by rw [Jr q h];exact z.2⟩
    ·have h:q=y m∨q=v:=by simpa using h
     rcases h with rfl|rfl
     ·have:p=v:=by rw [z.2];exact F.pv
      subst this;exact nt ⟨m-1,by have:=F.fan.pos;omega, .inr (.inl (by rw [show m-1+1=m by have:=F.fan.pos;omega]))⟩
     ·have:p=y 0:=by rw [z.2,F.nx]
      subst this;exact nt ⟨0,F.fan.pos, .inl rfl⟩
   refine ⟨(D.sym p q hd r1 r2).mp a,?_⟩;rintro ⟨k,hk,e|e|e⟩
   ·have e1:q=y k:=congrArg Prod.fst e
    have e2:p=v:=congrArg Prod.snd e;subst e1 e2
    by_cases c:k=0
    ·subst c;exact r1 ⟨F.vm,F.nx⟩
    ·exact nt ⟨k-1,by omega, .inr (.inl (by rw [show k-1+1=k by omega]))⟩
   ·have e1:q=v:=congrArg Prod.fst e
    have e2:p=y (k+1):=congrArg Prod.snd e;subst e1 e2
    by_cases c:k+1=m
    ·exact r1 ⟨by rw [c];exact F.pm,by rw [c];exact F.pv.symm⟩
    ·exact nt ⟨k+1,by omega, .inl rfl⟩
   ·have e1:q=y (k+1):=congrArg Prod.fst e
    have e2:p=y k:=congrArg Prod.snd e;subst e1 e2;exact n2 ⟨bD.mpr (.inr ⟨k+1,by omega,by omega,rfl⟩),by rw [sY (k+1) (by omega) (by omega)];rfl⟩
  exact ⟨one p q hd n1 n2,one q p (g.sym _ _ hd) n2 n1⟩
end
theorem Disc.AB{w:W}{a b:List Nat}{A:Nat×Nat→Prop}(D:Disc w (a++b) A):Disc w (b++a) A:=by
 have mem:∀p,p∈b++a↔p∈a++b:=λp=>List.perm_append_comm.mem_iff;have s:∀p,p∈b++a→ae (b++a) p=ae (a++b) p:=λp h=>e7 D.nd ((mem p).mp h);refine ⟨(List.perm_append_comm.nodup_iff).mp D.nd,by have:=D.len;simp at this ⊢;omega,D.dart,D.face,D.tri,λp hp=>?_,λp q hd n1 n2=>?_⟩
 ·rw [s p hp];exact D.ring p ((mem p).mp hp)
 ·refine D.sym p q hd (λz=>n1 ⟨(mem p).mpr z.1,?_⟩) (λz=>n2 ⟨(mem q).mpr z.1,?_⟩)
  ·rw [s p ((mem p).mpr z.1)];exact z.2
  ·rw [s q ((mem q).mpr z.1)];exact z.2
def bM(l:List Nat)(a:Nat):List Nat:=l.drop (l.idxOf a)++l.take (l.idxOf a)
theorem hZ(l:List Nat)(a:Nat):(bM l a).Perm l:=by
 unfold bM;exact List.perm_append_comm.trans (by rw [iH])
theorem lK(l:List Nat)(a:Nat):(bM l a).length=l.length:=(hZ l a).length_eq
theorem AD{l:List Nat}{a x:Nat}(nd:l.Nodup)(hx:x∈l):ae (bM l a) x=ae l x:=by
 unfold bM;have e:l.take (l.idxOf a)++l.drop (l.idxOf a)=l:=iH _ _
 have:=e7 (a:=l.take (l.idxOf a)) (b:=l.drop (l.idxOf a)) (x:=x) (by rw [e];exact nd) (by rw [e];exact hx)
 rw [this,e]
theorem tN{l:List Nat}{a:Nat}(h:a∈l):(bM l a).getD 0 0=a:=by
 have hl:=fH.mpr h;unfold bM;rw [aK,dH (by rw [eN];omega),vL,Nat.add_zero,bq hl,gE hl];rfl
theorem getD_inj{l:List Nat}(nd:l.Nodup){i j:Nat}(hi:i<l.length)(hj:j<l.length)(e:l.getD i 0=l.getD j 0):i=j:=by
 have ei:l.getD i 0=l[i]:=by rw [aK,bq hi];rfl
 have ej:l.getD j 0=l[j]:=by rw [aK,bq hj];rfl
 rw [ei,ej] at e;have h1:=nd.idxOf_getElem i hi;have h2:=nd.idxOf_getElem j hj;rw [e,h2] at h1;exact h1.symm
theorem ay{l:List Nat}{i:Nat}(h:i<l.length):l.getD i 0∈l:=by
 rw [aK,bq h];exact mH h
theorem ji{R:List Nat}{x:Nat}(nd:R.Nodup)(h:x∈R):∃b,b∈R∧ae R b=x:=by
 obtain ⟨i,hi,rfl⟩:=eX.mp h;have e:R[i]=R.getD i 0:=by rw [aK,bq hi];rfl
 by_cases c:i=0
 ·subst c
  exact ⟨R.getD (R.length-1) 0,ay (by omega),by rw [aX nd (by omega),e]⟩
 ·refine ⟨R.getD (i-1) 0,ay (by omega),?_⟩
  rw [aD nd (by omega),show i-1+1=i by omega,e]
structure Whole (w:W) (R:List Nat) (v m L:Nat) (y:Nat→Nat):Prop where
 at_:At w R v m y
 lt:m<L
 on:∀k,k+1<L→ae (row w v) (y k)=y (k+1)
 all:∀z,z∈row w v→∃k,k<L∧y k=z
 inj:∀i j,i<L→j<L→y i=y j→i=j
 mem:∀k,k<L→y k∈row w v
section
variable {w:W} {R:List Nat} {A:Nat×Nat→Prop}
theorem lP(g:Good w)(D:Disc w R A){v:Nat}(hv:v∈R){b:Nat}(hb:b∈R)(eb:ae R b=v):
  Whole w R v ((bM (row w v) (ae R v)).idxOf b) (row w v).length λk=>(bM (row w v) (ae R v)).getD k 0:=by
 have a:=(D.ring v hv).1;have am:ae R v∈row w v:=g.sym _ _ a
 have bm:b∈row w v:=by
  have:=(D.ring b hb).1
  rw [eb] at this;exact this
 have ET:=g.nod v;have jb:(bM (row w v) (ae R v)).Nodup:=(hZ _ _).nodup_iff.mpr ET;have ll:=lK (row w v) (ae R v);have Bn:∀z,z∈bM (row w v) (ae R v)↔z∈row w v:=λz=>(hZ _ _).mem_iff;have bl:=fH.mpr ((Bn b).mpr bm)
 have gb:(bM (row w v) (ae R v)).getD ((bM (row w v) (ae R v)).idxOf b) 0=b:=by
  rw [aK,bq bl,gE bl];rfl
 have on:∀k,k+1<(row w v).length→ae (row w v) ((bM (row w v) (ae R v)).getD k 0)=(bM (row w v) (ae R v)).getD (k+1) 0:=λk hk=>by
  rw [←AD (a:=ae R v) ET ((Bn _).mp (ay (by omega)))]
  exact aD jb (by omega)
 have mem:∀k,k<(row w v).length→(bM (row w v) (ae R v)).getD k 0∈row w v:=λk hk=>(Bn _).mp (ay (by omega))
 have inj:∀i j,i<(row w v).length→j<(row w v).length→(bM (row w v) (ae R v)).getD i 0=(bM (row w v) (ae R v)).getD j 0→i=j:=λi j hi hj e=>getD_inj jb (by omega) (by omega) e
 have zS:ae R v≠b:=by
  intro e;have h1:=D.len;obtain ⟨i,hi,rfl⟩:=eX.mp hv;have ei:R[i]=R.getD i 0:=by rw [aK,bq hi];rfl
  rw [←e,ei] at eb
  by_cases c:i+1<R.length
  ·rw [aD D.nd c] at eb
   by_cases c2:i+2<R.length
   ·rw [aD D.nd c2] at eb
    have:=getD_inj D.nd (by omega) (by omega) eb;omega
   ·rw [aX D.nd (by omega)] at eb
    have:=getD_inj D.nd (by omega) (by omega) eb;omega
  ·rw [aX D.nd (by omega),aD D.nd (by omega)] at eb
   have:=getD_inj D.nd (by omega) (by omega) eb;omega
 have h0:=tN am;refine ⟨⟨⟨λk hk=>on k (by omega),λk hk=>mem k (by omega),λi j hi hj e=>inj i j (by omega) (by omega) e,?_⟩,hv,h0,by rw [gb];exact hb,by rw [gb];exact eb⟩,by omega,on,λz hz=>?_,inj,mem⟩
 ·apply Classical.byContradiction
  intro c;have c:(bM (row w v) (ae R v)).idxOf b=0:=by omega
  rw [c,h0] at gb;exact zS gb
 ·have zl:=fH.mpr ((Bn z).mpr hz)
  exact ⟨(bM (row w v) (ae R v)).idxOf z,by omega,by rw [aK,bq zl,gE zl];rfl⟩
theorem Whole.out(g:Good w)(D:Disc w R A){v m L:Nat}{y:Nat→Nat}(F:Whole w R v m L y):∀k,m+k<L→1≤k→¬A (v,y (m+k))
 |0,_,h=>by omega
 |k+1,hk,_=>by
  have d:aF w (y (m+k),v):=g.sym _ _ (F.mem _ (by omega))
  have e:aW w (y (m+k),v)=(v,y (m+(k+1))):=by
   show (v,ae (row w v) (y (m+k)))=_;rw [F.on _ (by omega)];rfl
  have nA:¬A (y (m+k),v):=by
   by_cases c:k=0
   ·subst c
    have:=(D.ring (y m) F.at_.pm).2.2
    rw [F.at_.pv] at this;exact this
   ·intro a
    refine F.out g D k (by omega) (by omega) ((D.sym v (y (m+k)) (F.mem _ (by omega)) (λz=>?_) (λz=>?_)).mpr a)
    ·have:=F.inj (m+k) 0 (by omega) (by omega) (by rw [z.2,F.at_.nx]);omega
    ·have:=F.at_.pv
     have e2:=cR D.nd z.1 F.at_.pm (by rw [this];exact z.2.symm)
     have:=F.inj (m+k) m (by omega) (by omega) e2;omega
  intro a;rw [←e] at a;exact nA ((D.face _ d).mpr a)
theorem Whole.between(g:Good w)(D:Disc w R A){v m L:Nat}{y:Nat→Nat}(F:Whole w R v m L y){z:Nat}(hz:A (v,z)):∃k,1≤k∧k≤m∧y k=z:=by
 obtain ⟨k,hk,rfl⟩:=F.all z (D.dart _ hz);refine ⟨k,?_,?_,rfl⟩
 ·apply Classical.byContradiction
  intro c;have c:k=0:=by omega
  subst c;rw [F.at_.nx] at hz;exact (D.ring v F.at_.vm).2.2 hz
 ·apply Classical.byContradiction
  intro c
  have:=F.out g D (k-m) (by omega) (by omega)
  rw [show m+(k-m)=k by omega] at this
  exact this hz
def bG(C:List Nat)(x y:Nat):Prop:=x∈C∧y=ae C x
structure Bd (w:W) (C:List Nat) (S:Nat×Nat→Prop):Prop where
 face:∀d,aF w d→(S d↔S (aW w d))
 no:∀x y,aF w (x,y)→¬bG C x y→¬bG C y x→(S (x,y)↔S (y,x))
 yes:∀x y,aF w (x,y)→bG C x y∨bG C y x→(S (x,y)↔¬S (y,x))
theorem Bd.neg{C:List Nat}{S:Nat×Nat→Prop}(B:Bd w C S):Bd w C λd=>¬S d:=
 ⟨λd h=>not_congr (B.face d h),λx y h a b=>not_congr (B.no x y h a b),λx y h a=>not_congr (B.yes x y h a)⟩
theorem Whole.seg(g:Good w){v m L:Nat}{y:Nat→Nat}(F:Whole w R v m L y){C:List Nat}{S:Nat×Nat→Prop}(B:Bd w C S){i:Nat}:∀n,i+n+1<L→(∀k,i<k→k≤i+n→¬bG C v (y k)∧¬bG C (y k) v)→(S (y i,v)↔S (v,y (i+n+1)))
 |0,h,_=>by
  have d:aF w (y i,v):=g.sym _ _ (F.mem _ (by omega))
  have e:aW w (y i,v)=(v,y (i+0+1)):=by
   show (v,ae (row w v) (y i))=_;rw [F.on _ (by omega)]
  rw [B.face _ d,e]
 |n+1,h,q=>by
  have ih:=F.seg g B n (by omega) λk h1 h2=>q k h1 (by omega)
  have c:=q (i+n+1) (by omega) (by omega)
  have s:=B.no v (y (i+n+1)) (F.mem _ (by omega)) c.1 c.2
  have d:aF w (y (i+n+1),v):=g.sym _ _ (F.mem _ (by omega))
  have e:aW w (y (i+n+1),v)=(v,y (i+(n+1)+1)):=by
   show (v,ae (row w v) (y (i+n+1)))=_;rw [F.on _ (by omega)];rfl
  rw [ih,s,B.face _ d,e]
theorem nk{a b:List Nat}{z x:Nat}(nd:(a++ [z]++b).Nodup)(hx:x∈a):ae (a++ [z]++b) x=ae (a++ [z]) x:=by
 have td:(a++ [z]).Nodup:=(dX.mp nd).1;obtain ⟨i,hi,rfl⟩:=eX.mp hx
 have e1:(a++ [z]++b).getD i 0=a[i]:=by
  rw [aK,mF,dH hi,bq hi];rfl
 have e2:(a++ [z]).getD i 0=a[i]:=by
  rw [aK,dH hi,bq hi];rfl
 have h1:=aD (i:=i) nd (by simp;omega)
 have h2:=aD (i:=i) td (by simp;omega)
 rw [e1] at h1;rw [e2] at h2;rw [h1,h2,aK,dH (by simp;omega),←aK]
theorem parted(g:Good w)(D:Disc w R A){p q:Nat}{B C:List Nat}(hR:R=p::(B++q::C))(hB:B≠ [])(hC:C≠ [])(ch:A (p,q)){S:Nat×Nat→Prop}(bd:Bd w (p::(B++ [q])) S)(hs:S (ae R p,p)):
  Disc w (p::(B++ [q])) (λd=>A d∧S d)∧Disc w (q::(C++ [p])) (λd=>A d∧¬S d):=by
 have kg:=D.nd;have Ej:R=(p::B)++ [q]++C:=by rw [hR];simp
 have ye:R=(p::B)++(q::C):=by rw [hR];simp
 have ET:((q::C)++ [p]++B).Nodup:=by
  have:((q::C)++(p::B)).Nodup:=List.perm_append_comm.nodup_iff.mp (ye▸kg)
  simpa using this
 have td:((p::B)++ [q]).Nodup:=by rw [Ej] at kg;exact (dX.mp kg).1
 have qT:((q::C)++ [p]).Nodup:=(dX.mp ET).1
 have sp:∀x∈p::B,ae (p::(B++ [q])) x=ae R x:=λx hx=>by
  have:=nk (a:=p::B) (b:=C) (z:=q) (Ej▸kg) hx
  rw [Ej,this];rfl
 have sq:∀x∈q::C,ae (q::(C++ [p])) x=ae R x:=λx hx=>by
  have h1:=nk (a:=q::C) (b:=B) (z:=p) ET hx;have h2:=e7 (a:=p::B) (b:=q::C) (x:=x) (ye▸kg) (eY _ hx);rw [←ye] at h2;rw [←h2];have e:(q::C)++ [p]++B=(q::C)++(p::B):=by simp
  rw [e] at h1;exact h1.symm
 have AE:ae (p::(B++ [q])) q=p:=cM td;have LW:ae (q::(C++ [p])) p=q:=cM qT
 have mf:∀x,x∈p::B→x∉q::C:=λx h1 h2=>by
  rw [ye] at kg;exact (dX.mp kg).2.2 x h1 x h2 rfl
 have mR:∀x,x∈R↔x∈p::B∨x∈q::C:=λx=>by rw [ye,cq]
 have m1:∀x,x∈p::(B++ [q])↔x∈p::B∨x=q:=λx=>by simp [or_assoc]
 have m2:∀x,x∈q::(C++ [p])↔x∈q::C∨x=p:=λx=>by simp [or_assoc]
 have pB:p∉B:=by
  have:=(dX.mp td).1
  exact (fJ.mp this).1
 have pq:p≠q:=λe=>mf p (bP ..) (e▸bP ..)
 have Q9:ae R p∈B:=by
  obtain ⟨b,B',rfl⟩:=List.exists_cons_of_ne_nil hB
  have:ae R p=b:=by
   rw [hR];exact bF (a:= []) (b:=B'++q::C) (by rw [hR] at kg;simpa using kg)
  rw [this];exact bP ..
 have LX:ae R q∈C:=by
  obtain ⟨c,C',rfl⟩:=List.exists_cons_of_ne_nil hC
  have:ae R q=c:=by
   rw [hR,show p::(B++q::c::C')=(p::B)++q::c::C' by simp]
   exact bF (by rw [hR] at kg;simpa using kg)
  rw [this];exact bP ..
 have qp:¬bG R q p:=λz=>mf p (bP ..) (by rw [z.2];exact bV _ LX)
 have W7:¬bG R p q:=λz=>mf q (by rw [z.2];exact bV _ Q9) (bP ..)
 have MX:A (q,p):=(D.sym p q (D.dart _ ch) W7 qp).mp ch
 have LZ:∀x b,x∈B→b∈R→ae R b=x→(S (ae R x,x)↔S (x,b)):=λx b hx hb eb=>by
  have EA:x∈R:=(mR x).mpr (.inl (bV _ hx));have F:=lP g D EA hb eb;generalize (bM (row w x) (ae R x)).idxOf b=m at F;generalize (λk=>(bM (row w x) (ae R x)).getD k 0)=y at F;have mp:=F.at_.fan.pos;have yb:y m=b:=cR D.nd F.at_.pm hb (by rw [F.at_.pv,eb])
  have:=F.seg g bd (i:=0) (m-1) (by have:=F.lt;omega) λk h1 h2=>⟨λz=>?_,λz=>?_⟩
  ·rw [F.at_.nx,show 0+(m-1)+1=m by omega,yb] at this
   exact this
  ·have e:=z.2
   rw [sp x (bV _ hx)] at e
   have:=F.at_.y0 (by omega) e
   omega
  ·have e:=z.2
   rcases (m1 _).mp z.1 with h|h
   ·rw [sp _ h] at e
    have:=F.at_.ym D (by omega) ((mR _).mpr (.inl h)) e
    omega
   ·rw [h,AE] at e
    exact pB (e▸hx)
 have L0:∀x b,x∈C→b∈R→ae R b=x→(S (ae R x,x)↔S (x,b)):=λx b hx hb eb=>by
  have EA:x∈R:=(mR x).mpr (.inr (bV _ hx))
  have xn:x∉p::(B++ [q]):=λz=>by
   rcases (m1 x).mp z with h|h
   ·exact mf x h (bV _ hx)
   ·subst h
    have:=(dX.mp qT).1
    exact (fJ.mp this).1 hx
  have F:=lP g D EA hb eb;generalize (bM (row w x) (ae R x)).idxOf b=m at F;generalize (λk=>(bM (row w x) (ae R x)).getD k 0)=y at F;have mp:=F.at_.fan.pos;have yb:y m=b:=cR D.nd F.at_.pm hb (by rw [F.at_.pv,eb])
  have:=F.seg g bd (i:=0) (m-1) (by have:=F.lt;omega) λk h1 h2=>⟨λz=>xn z.1,λz=>xn (by rw [z.2];exact bc z.1)⟩
  rw [F.at_.nx,show 0+(m-1)+1=m by omega,yb] at this
  exact this
 have OL:p∈R:=(mR p).mpr (.inl (bP ..))
 have MM:∀b,b∈R→ae R b=p→S (p,q)∧¬S (q,p)∧¬S (p,b):=λb hb eb=>by
  have F:=lP g D OL hb eb;generalize (bM (row w p) (ae R p)).idxOf b=m at F;generalize (λk=>(bM (row w p) (ae R p)).getD k 0)=y at F;have mp:=F.at_.fan.pos;have yb:y m=b:=cR D.nd F.at_.pm hb (by rw [F.at_.pv,eb])
  obtain ⟨j,j1,j2,yj⟩:=F.between g D ch
  have jm:j≠m:=λe=>by
   rw [e,yb] at yj;rw [yj] at eb;exact mf p (bP ..) (by rw [←eb];exact bV _ LX)
  have lt:=F.lt
  have aZ:∀k,0<k→k<m→k≠j→¬bG (p::(B++ [q])) p (y k)∧¬bG (p::(B++ [q])) (y k) p:=λk h1 h2 h3=>⟨λz=>by
   have e:=z.2;rw [sp p (bP ..)] at e
   have:=F.at_.y0 (by omega) e
   omega,λz=>by
   have e:=z.2
   rcases (m1 _).mp z.1 with h|h
   ·rw [sp _ h] at e
    have:=F.at_.ym D (by omega) ((mR _).mpr (.inl h)) e
    omega
   ·rw [←yj] at h
    exact h3 (F.inj k j (by omega) (by omega) h)⟩
  have g1:=F.seg g bd (i:=0) (j-1) (by omega) λk h1 h2=>aZ k h1 (by omega) (by omega)
  rw [F.at_.nx,show 0+(j-1)+1=j by omega,yj] at g1
  have s1:S (p,q):=g1.mp hs;have s2:¬S (q,p):=(bd.yes p q (D.dart _ ch) (.inr ⟨(m1 q).mpr (.inr rfl),AE.symm⟩)).mp s1;have g2:=F.seg g bd (i:=j) (m-j-1) (by omega) λk h1 h2=>aZ k (by omega) (by omega) (by omega)
  rw [yj,show j+(m-j-1)+1=m by omega,yb] at g2
  exact ⟨s1,s2,λz=>s2 (g2.mpr z)⟩
 obtain ⟨bl,TQ,Th⟩:=ji D.nd OL;obtain ⟨QP,QQ,_⟩:=MM bl TQ Th;have lR:R.length=B.length+C.length+2:=by rw [hR];simp;omega
 have gB:∀i,1≤i→i≤B.length→R.getD i 0∈B:=λi h1 h2=>by
  obtain ⟨k,rfl⟩:∃k,i=k+1:=⟨i-1,by omega⟩
  rw [hR,j4,aK,dH (by omega),bq (by omega)]
  exact mH _
 have gC:∀i,B.length+2≤i→i<R.length→R.getD i 0∈C:=λi h1 h2=>by
  rw [show R=(p::B++ [q])++C by rw [Ej],aK,fA (by simp;omega),bq (by simp;omega)]
  exact mH _
 have g0:R.getD 0 0=p:=by rw [hR];rfl
 have gq:R.getD (B.length+1) 0=q:=by
  rw [hR,j4,aK,fA (bh _)];simp
 have gR:∀i,i<R.length→R.getD i 0∈R:=λi h=>ay h
 have Xu:∀i,i≤B.length→S (ae R (R.getD i 0),R.getD i 0):=by
  intro i
  induction i with
  |zero=>intro _;rw [g0];exact hs
  |succ i ih=>
   intro h;have e:=aD D.nd (i:=i) (by omega)
   have ih:=ih (by omega)
   rw [e] at ih;exact (LZ _ _ (gB (i+1) (by omega) h) (gR i (by omega)) e).mpr ih
 have Tc:∀n i,i+n+1=R.length→B.length+1≤i→¬S (ae R (R.getD i 0),R.getD i 0):=by
  intro n
  induction n with
  |zero=>
   intro i h1 h2;have e:=aX D.nd (i:=i) (by omega)
   rw [g0] at e;rw [e];exact (MM _ (gR i (by omega)) e).2.2
  |succ n ih=>
   intro i h1 h2;have e:=aD D.nd (i:=i) (by omega)
   have ih:=ih (i+1) (by omega) (by omega)
   rw [e];exact λz=>ih ((L0 _ _ (gC (i+1) (by omega) (by omega)) (gR i (by omega)) e).mpr z)
 have Mt:∀x∈p::B,S (ae R x,x):=λx hx=>by
  obtain ⟨i,hi,rfl⟩:=eX.mp hx;have e:R.getD i 0=(p::B)[i]:=by rw [ye,aK,dH hi,bq hi];rfl
  have:=Xu i (by simp at hi;omega)
  rw [e] at this;exact this
 have Mu:∀x∈q::C,¬S (ae R x,x):=λx hx=>by
  obtain ⟨i,hi,rfl⟩:=eX.mp hx
  have e:R.getD (B.length+1+i) 0=(q::C)[i]:=by
   rw [ye,aK,fA (by simp),show B.length+1+i-(p::B).length=i by simp,bq hi];rfl
  have kD:i<C.length+1:=by simpa using hi
  have:=Tc (R.length-(B.length+1+i)-1) (B.length+1+i) (by omega) (by omega)
  rw [e] at this;exact this
 have Ko:∀d,aF w d→((A d∧S d)↔(A (aW w d)∧S (aW w d))):=λd hd=>and_congr (D.face d hd) (bd.face d hd);have Kn:∀d,aF w d→((A d∧¬S d)↔(A (aW w d)∧¬S (aW w d))):=λd hd=>and_congr (D.face d hd) (not_congr (bd.face d hd));have lB:=ue.mpr hB;have lC:=ue.mpr hC
 have Bu:∀x∈q::C,¬S (x,ae R x)∧¬S (ae R x,x):=λx hx=>by
  have a:=Mu x hx;have EA:=(mR x).mpr (.inr hx);have d:=(D.ring x EA).1;refine ⟨λz=>a ?_,a⟩;refine (bd.no x (ae R x) (g.sym _ _ d) (λz=>?_) (λz=>?_)).mp z
  ·rcases (m1 x).mp z.1 with h|h
   ·exact mf x h hx
   ·have e:=z.2
    subst h;rw [AE] at e;exact mf p (bP ..) (by rw [←e];exact bV _ LX)
  ·have e:=z.2
   rcases (m1 _).mp z.1 with h|h
   ·rw [sp _ h] at e
    have:ae R x∈q::C∨ae R x=p:=by
     rw [←sq x hx]
     have:=bc (l:=q::(C++ [p])) (x:=x) ((m2 x).mpr (.inl hx))
     exact (m2 _).mp this
    rcases this with h2|h2
    ·exact mf _ h h2
    ·rw [h2] at e
     exact mf x (by rw [e];exact bV _ Q9) hx
   ·rw [h,AE] at e
    exact mf p (bP ..) (e▸hx)
 refine ⟨⟨td,by simp;omega,λd h=>D.dart d h.1,Ko,λd h=>D.tri d h.1,λx hx=>?_,λx y hd n1 n2=>?_⟩,⟨qT,by simp;omega,λd h=>D.dart d h.1,Kn,λd h=>D.tri d h.1,λx hx=>?_,λx y hd n1 n2=>?_⟩⟩
 ·rcases (m1 x).mp hx with h|rfl
  ·rw [sp x h]
   have r:=D.ring x ((mR x).mpr (.inl h));exact ⟨r.1,⟨r.2.1,Mt x h⟩,λz=>r.2.2 z.1⟩
  ·rw [AE]
   exact ⟨D.dart _ ch,⟨ch,QP⟩,λz=>QQ z.2⟩
 ·have sy:=bd.no x y hd n1 n2
  by_cases c1:bG R x y
  ·obtain ⟨hx,rfl⟩:=c1
   rcases (mR x).mp hx with h|h
   ·exact absurd ⟨(m1 x).mpr (.inl h),(sp x h).symm⟩ n1
   ·exact ⟨λz=>absurd z.2 (Bu x h).1,λz=>absurd z.2 (Bu x h).2⟩
  ·by_cases c2:bG R y x
   ·obtain ⟨hy,rfl⟩:=c2
    rcases (mR y).mp hy with h|h
    ·exact absurd ⟨(m1 y).mpr (.inl h),(sp y h).symm⟩ n2
    ·exact ⟨λz=>absurd z.2 (Bu y h).2,λz=>absurd z.2 (Bu y h).1⟩
   ·exact and_congr (D.sym x y hd c1 c2) sy
 ·rcases (m2 x).mp hx with h|rfl
  ·rw [sq x h]
   have r:=D.ring x ((mR x).mpr (.inr h));exact ⟨r.1,⟨r.2.1,Mu x h⟩,λz=>r.2.2 z.1⟩
  ·rw [LW]
   exact ⟨D.dart _ MX,⟨MX,QQ⟩,λz=>z.2 QP⟩
 ·have je:∀x∈p::B,¬(A (x,ae R x)∧¬S (x,ae R x))∧¬(A (ae R x,x)∧¬S (ae R x,x)):=λx hx=>
   ⟨λz=>(D.ring x ((mR x).mpr (.inl hx))).2.2 z.1,λz=>z.2 (Mt x hx)⟩
  by_cases c1:bG R x y
  ·obtain ⟨hx,rfl⟩:=c1
   rcases (mR x).mp hx with h|h
   ·exact ⟨λz=>absurd z (je x h).1,λz=>absurd z (je x h).2⟩
   ·exact absurd ⟨(m2 x).mpr (.inl h),(sq x h).symm⟩ n1
  ·by_cases c2:bG R y x
   ·obtain ⟨hy,rfl⟩:=c2
    rcases (mR y).mp hy with h|h
    ·exact ⟨λz=>absurd z (je y h).2,λz=>absurd z (je y h).1⟩
    ·exact absurd ⟨(m2 y).mpr (.inl h),(sq y h).symm⟩ n2
   ·refine and_congr (D.sym x y hd c1 c2) (not_congr (bd.no x y hd (λz=>?_) (λz=>?_)))
    ·rcases (m1 x).mp z.1 with h|rfl
     ·exact c1 ⟨(mR x).mpr (.inl h),by rw [z.2,sp x h]⟩
     ·have e:=z.2
      rw [AE] at e;exact n2 ⟨(m2 y).mpr (.inr e),by rw [e,LW]⟩
    ·rcases (m1 y).mp z.1 with h|rfl
     ·exact c2 ⟨(mR y).mpr (.inl h),by rw [z.2,sp y h]⟩
     ·have e:=z.2
      rw [AE] at e;exact n1 ⟨(m2 x).mpr (.inr e),by rw [e,LW]⟩
end
def par{α:Type}(f:α→Bool):List α→Bool
 | []=>false
 |x::l=>(f x).xor (par f l)
theorem jf{α:Type}(f:α→Bool):∀l m:List α,par f (l++m)=(par f l).xor (par f m)
 | [],m=>by simp [par]
 |x::l,m=>by rw [List.cons_append,par,par,jf f l m,Bool.xor_assoc]
theorem oI{α:Type}(f g:α→Bool):∀l:List α,par (λx=>(f x).xor (g x)) l=(par f l).xor (par g l)
 | []=>rfl
 |x::l=>by
  rw [par,par,par,oI f g l];cases f x<;>cases g x<;>cases par f l<;>cases par g l<;>rfl
theorem fQ{α:Type}{f:α→Bool}:∀{l:List α},(∀x∈l,f x=false)→par f l=false
 | [],_=>rfl
 |x::l,h=>by rw [par,h x (bP ..),fQ λy hy=>h y (bV _ hy)];rfl
theorem jI{α:Type}{f g:α→Bool}:∀{l:List α},(∀x∈l,f x=g x)→par f l=par g l
 | [],_=>rfl
 |x::l,h=>by rw [par,par,h x (bP ..),jI λy hy=>h y (bV _ hy)]
theorem kM{b:Bool}{a:Nat}:∀{l:List Nat},l.Nodup→a∈l→par (λx=>decide (x=a)&&b) l=b
 | [],_,h=>by cases h
 |x::l,nd,h=>by
  obtain ⟨n1,n2⟩:=fJ.mp nd;rw [par]
  by_cases e:x=a
  ·subst e
   rw [fQ λy hy=>by
    have:y≠x:=λz=>n1 (z▸hy)
    simp [this]]
   simp
  ·have:a∈l:=by
    rcases bQ.mp h with z|z
    ·exact absurd z.symm e
    ·exact z
   rw [kM n2 this];simp [e]
theorem yD{α:Type}(f:α→Bool):∀l:List α,par f l.reverse=par f l
 | []=>rfl
 |x::l=>by
  rw [uf,jf,yD f l,par,par,par];cases f x<;>cases par f l<;>rfl
def kj(w:W):Prop:=∀c:Nat→Nat→Bool,(∀x y,c x y=c y x)→(∀p,p<w.length→par (c p) (row w p)=false)→
 ∃S:Nat×Nat→Bool,(∀d,aF w d→S d=S (aW w d))∧∀x y,aF w (x,y)→(S (x,y)).xor (S (y,x))=c x y
open Classical in
theorem kj.ring{w:W}(B:kj w)(g:Good w){C:List Nat}(nd:C.Nodup)(len:3≤C.length)(tie:∀p∈C,ae C p∈row w p):∃S:Nat×Nat→Prop,Bd w C S:=by
 have sy:∀x y,decide (bG C x y∨bG C y x)=decide (bG C y x∨bG C x y):=λx y=>decide_eq_decide.mpr Or.comm
 have ev:∀p,p<w.length→par (λy=>decide (bG C p y∨bG C y p)) (row w p)=false:=λp _=>by
  by_cases hp:p∈C
  ·obtain ⟨b,hb,eb⟩:=ji nd hp
   have ne:ae C p≠b:=by
    intro e;rw [←e] at eb;obtain ⟨i,hi,rfl⟩:=eX.mp hp;have ei:C[i]=C.getD i 0:=by rw [aK,bq hi];rfl
    rw [ei] at eb
    by_cases c:i+1<C.length
    ·rw [aD nd c] at eb
     by_cases c2:i+2<C.length
     ·rw [aD nd c2] at eb
      have:=getD_inj nd (by omega) (by omega) eb;omega
     ·rw [aX nd (by omega)] at eb
      have:=getD_inj nd (by omega) (by omega) eb;omega
    ·rw [aX nd (by omega),aD nd (by omega)] at eb
     have:=getD_inj nd (by omega) (by omega) eb;omega
   have e:par (λy=>decide (bG C p y∨bG C y p)) (row w p)=par (λy=>(decide (y=ae C p)&&true).xor (decide (y=b)&&true)) (row w p):=jI λy _=>by
    have h1:bG C p y↔y=ae C p:=⟨λz=>z.2,λz=>⟨hp,z⟩⟩;have h2:bG C y p↔y=b:=⟨λz=>cR nd z.1 hb (by rw [eb];exact z.2.symm),λz=>by rw [z];exact ⟨hb,eb.symm⟩⟩
    have e3:decide (bG C p y∨bG C y p)=decide (y=ae C p∨y=b):=decide_eq_decide.mpr (or_congr h1 h2);rw [e3]
    by_cases c1:y=ae C p
    ·have c2:y≠b:=λz=>ne (c1▸z)
     simp [c1,ne]
    ·by_cases c2:y=b
     ·simp [c2,Ne.symm ne]
     ·simp [c1,c2]
   rw [e,oI,kM (g.nod p) (tie p hp),kM (g.nod p) (by
    have:=g.sym _ _ (tie b hb)
    rw [eb] at this;have h:=tie b hb;rw [eb] at h;exact g.sym _ _ h)]
   rfl
  ·refine fQ λy _=>decide_eq_false ?_
   rintro (z|z)
   ·exact hp z.1
   ·exact hp (by rw [z.2];exact bc z.1)
 obtain ⟨S,h1,h2⟩:=B (λx y=>decide (bG C x y∨bG C y x)) sy ev;refine ⟨λd=>S d=true,λd hd=>by rw [h1 d hd],λx y hd n1 n2=>?_,λx y hd a=>?_⟩
 ·have:=h2 x y hd
  rw [decide_eq_false (show ¬(bG C x y∨bG C y x) from λz=>z.elim n1 n2)] at this;cases e1:S (x,y)<;>cases e2:S (y,x)<;>simp [e1,e2] at this ⊢
 ·have:=h2 x y hd
  rw [decide_eq_true a] at this;cases e1:S (x,y)<;>cases e2:S (y,x)<;>simp [e1,e2] at this ⊢
structure bR (w:W) (R:List Nat):Prop where
 g:Good w
 nd:R.Nodup
 len:3≤R.length
 hd:∀x∈R,ae R x∈row w x∧(row w x).getD 0 0=ae R x
 ls:∀x∈R,(row w x).getD ((row w x).length-1) 0∈R∧ae R ((row w x).getD ((row w x).length-1) 0)=x
 tri:∀x y,aF w (x,y)→¬bG R x y→aW w (aW w (aW w (x,y)))=(x,y)∧¬bG R (aW w (x,y)).1 (aW w (x,y)).2
 bnd:kj w
theorem bR.AB{w:W}{a b:List Nat}(G:bR w (a++b)):bR w (b++a):=by
 have mem:∀p,p∈b++a↔p∈a++b:=λp=>List.perm_append_comm.mem_iff;have s:∀p,p∈b++a→ae (b++a) p=ae (a++b) p:=λp h=>e7 G.nd ((mem p).mp h)
 have ad:∀x y,bG (b++a) x y↔bG (a++b) x y:=λx y=>by
  constructor
  ·rintro ⟨h,e⟩;exact ⟨(mem x).mp h,by rw [e,s x h]⟩
  ·rintro ⟨h,e⟩;exact ⟨(mem x).mpr h,by rw [e,s x ((mem x).mpr h)]⟩
 refine ⟨G.g,List.perm_append_comm.nodup_iff.mp G.nd,by have:=G.len;simp at this ⊢;omega,λx hx=>?_,λx hx=>?_,λx y hd n=>?_,G.bnd⟩
 ·rw [s x hx];exact G.hd x ((mem x).mp hx)
 ·have:=G.ls x ((mem x).mp hx)
  exact ⟨(mem _).mpr this.1,by rw [s _ ((mem _).mpr this.1)];exact this.2⟩
 ·have:=G.tri x y hd (λz=>n ((ad x y).mpr z))
  exact ⟨this.1,λz=>this.2 ((ad _ _).mp z)⟩
theorem bR.sQ{w:W}{R:List Nat}(G:bR w R){x b:Nat}(hx:x∈R)(hb:b∈R)(e:ae R b=x):(row w x).getD ((row w x).length-1) 0=b∧(row w x).length≠0:=by
 have:=G.ls x hx
 refine ⟨cR G.nd this.1 hb (by rw [this.2,e]),?_⟩
 have:=(G.hd x hx).1
 intro z;rw [BQ.mp z] at this;cases this
theorem bR.outer{w:W}{R:List Nat}(G:bR w R){x y:Nat}(h:bG R x y):aW w (x,y)=(y,ae R y):=by
 obtain ⟨hx,rfl⟩:=h;have hy:=bc hx;obtain ⟨e,ne⟩:=G.sQ hy hx rfl;show (_,ae (row w (ae R x)) x)=_;have e2:=aX (G.g.nod (ae R x)) (i:=(row w (ae R x)).length-1) (by omega)
 rw [e] at e2;rw [e2,(G.hd _ hy).2]
theorem bR.D2{w:W}{R:List Nat}(G:bR w R):Disc w R λd=>aF w d∧¬bG R d.1 d.2:=by
 have two:∀x∈R,ae R (ae R x)≠x:=λx hx e=>by
  have len:=G.len;obtain ⟨i,hi,rfl⟩:=eX.mp hx;have ei:R[i]=R.getD i 0:=by rw [aK,bq hi];rfl
  rw [ei] at e
  by_cases c:i+1<R.length
  ·rw [aD G.nd c] at e
   by_cases c2:i+2<R.length
   ·rw [aD G.nd c2] at e
    have:=getD_inj G.nd (by omega) (by omega) e;omega
   ·rw [aX G.nd (by omega)] at e
    have:=getD_inj G.nd (by omega) (by omega) e;omega
  ·rw [aX G.nd (by omega),aD G.nd (by omega)] at e
   have:=getD_inj G.nd (by omega) (by omega) e;omega
 refine ⟨G.nd,G.len,λd h=>h.1,λd hd=>⟨λh=>⟨eo G.g hd,(G.tri d.1 d.2 hd h.2).2⟩,λh=>⟨hd,λz=>h.2 ?_⟩⟩,λd h=>(G.tri d.1 d.2 h.1 h.2).1,λp hp=>?_,λp q hd n1 n2=>?_⟩
 ·have e:aW w d=(d.2,ae R d.2):=G.outer z
  rw [e];exact ⟨by rw [z.2];exact bc z.1,rfl⟩
 ·have h1:=(G.hd p hp).1
  exact ⟨G.g.sym _ _ h1,⟨G.g.sym _ _ h1,λz=>two p hp z.2.symm⟩,λz=>z.2 ⟨hp,rfl⟩⟩
 ·exact ⟨λh=>⟨G.g.sym _ _ h.1,n2⟩,λh=>⟨G.g.sym _ _ h.1,n1⟩⟩
end Wb
set_option maxHeartbeats 1000000
namespace Wb
structure Step (w w':W) (R:List Nat) (f:Nat):Prop where
 l:w'.length=w.length+1
 f1:1≤f
 fn:f<R.length
 rv:row w' w.length=(R.take (f+1)).reverse
 r0:row w' (R.getD 0 0)=w.length::row w (R.getD 0 0)
 rk:∀k,1≤k→k≤f→row w' (R.getD k 0)=row w (R.getD k 0)++ [w.length]
 ro:∀x,x≠w.length→(∀k,k≤f→x≠R.getD k 0)→row w' x=row w x
def bL(R:List Nat)(f v:Nat):List Nat:=R.getD 0 0::v::R.drop f
theorem dA{R:List Nat}{f k:Nat}(h:f<R.length)(hk:k≤f):(R.take (f+1)).reverse.getD (f-k) 0=R.getD k 0:=by
 have l:(R.take (f+1)).length=f+1:=by rw [b8];omega
 rw [aK,List.getElem?_reverse (by omega),l,show f+1-1-(f-k)=k by omega,pe (by omega),←aK]
theorem rb{l:List Nat}{v x:Nat}(nd:(v::l).Nodup)(hx:x∈l)(hl:x≠l.getD (l.length-1) 0):ae (v::l) x=ae l x:=by
 obtain ⟨i,hi,rfl⟩:=eX.mp hx;have e:l[i]=l.getD i 0:=by rw [aK,bq hi];rfl
 have qR:i+1<l.length:=by
  apply Classical.byContradiction;intro c;exact hl (by rw [e,show l.length-1=i by omega])
 have h1:=aD (i:=i+1) nd (by simp;omega)
 have h2:=aD (i:=i) (fJ.mp nd).2 qR;rw [j4,j4] at h1;rw [e,h1,h2]
theorem rd{l:List Nat}{v x:Nat}(nd:(l++ [v]).Nodup)(hx:x∈l)(hl:x≠l.getD (l.length-1) 0):ae (l++ [v]) x=ae l x:=by
 obtain ⟨i,hi,rfl⟩:=eX.mp hx;have e:l[i]=l.getD i 0:=by rw [aK,bq hi];rfl
 have qR:i+1<l.length:=by
  apply Classical.byContradiction;intro c;exact hl (by rw [e,show l.length-1=i by omega])
 have g:∀j,j<l.length→(l++ [v]).getD j 0=l.getD j 0:=λj hj=>by rw [aK,dH hj,←aK]
 have h1:=aD (i:=i) nd (by simp;omega)
 have h2:=aD (i:=i) (dX.mp nd).1 qR;rw [g i hi,g (i+1) qR] at h1;rw [e,h1,h2]
section
variable {w w':W} {R:List Nat} {f:Nat}
theorem ni(G:bR w R)(T:Step w w' R f):Good w':=by
 have g:=G.g;have fn:=T.fn;have zR:∀k,k≤f→R.getD k 0∈R:=λk h=>ay (by omega)
 have zlt:∀k,k≤f→R.getD k 0<w.length:=λk h=>bu (G.hd _ (zR k h)).1
 have Di:∀x,x∈(R.take (f+1)).reverse↔∃k,k≤f∧x=R.getD k 0:=λx=>by
  rw [List.mem_reverse]
  constructor
  ·intro h
   obtain ⟨i,hi,rfl⟩:=eX.mp h;rw [b8] at hi;exact ⟨i,by omega,by rw [vO,aK,bq (by omega)];rfl⟩
  ·rintro ⟨k,hk,rfl⟩
   refine eX.mpr ⟨k,by rw [b8];omega,?_⟩
   rw [vO,aK,bq (by omega)];rfl
 have mem:∀x,x≠w.length→∀y,y∈row w' x↔y∈row w x∨(y=w.length∧∃k,k≤f∧x=R.getD k 0):=λx hx y=>by
  by_cases c:∃k,k≤f∧x=R.getD k 0
  ·obtain ⟨k,hk,rfl⟩:=c
   by_cases k0:k=0
   ·subst k0
    rw [T.r0,bQ];exact ⟨λh=>h.elim (λz=> .inr ⟨z,0,hk,rfl⟩) .inl,λh=>h.elim .inr (λz=> .inl z.1)⟩
   ·rw [T.rk k (by omega) hk,cq,gF]
    exact ⟨λh=>h.elim .inl (λz=> .inr ⟨z,k,hk,rfl⟩),λh=>h.elim .inl (λz=> .inr z.1)⟩
  ·rw [T.ro x hx (λk hk z=>c ⟨k,hk,z⟩)]
   exact ⟨.inl,λh=>h.elim id (λz=>absurd z.2 c)⟩
 have Bo:∀y,y∈row w' w.length↔∃k,k≤f∧y=R.getD k 0:=λy=>by rw [T.rv];exact Di y
 have F7:∀x,w.length∉row w x:=λx h=>fB _ (g.rng _ _ h)
 have Ww:∀x,x≠w.length→(row w' x).Nodup:=λx hx=>by
  by_cases c:∃k,k≤f∧x=R.getD k 0
  ·obtain ⟨k,hk,rfl⟩:=c
   by_cases k0:k=0
   ·subst k0
    rw [T.r0];exact fJ.mpr ⟨F7 _,g.nod _⟩
   ·rw [T.rk k (by omega) hk]
    exact dX.mpr ⟨g.nod _,by simp,λa ha b hb e=>by
     have:b=w.length:=gF.mp hb
     rw [e,this] at ha;exact F7 _ ha⟩
  ·rw [T.ro x hx (λk hk z=>c ⟨k,hk,z⟩)];exact g.nod x
 have up:∀x y,y∈row w x→y∈row w' x:=λx y h=>(mem x (by have:=bu h;omega) y).mpr (.inl h)
 have con:∀x,x<w.length→Reach w' 0 x:=λx hx=>(g.con x hx).mono up;refine ⟨λx y h=>?_,λx h=>?_,λx=>?_,λx y h=>?_,λx hx=>?_⟩
 ·rw [T.l]
  by_cases c:x=w.length
  ·subst c
   obtain ⟨k,hk,rfl⟩:=(Bo y).mp h
   have:=zlt k hk;omega
  ·rcases (mem x c y).mp h with h| ⟨h,_⟩
   ·have:=g.rng _ _ h;omega
   ·omega
 ·by_cases c:x=w.length
  ·subst c
   obtain ⟨k,hk,e⟩:=(Bo _).mp h
   have:=zlt k hk;omega
  ·rcases (mem x c x).mp h with h| ⟨h,_⟩
   ·exact g.irr x h
   ·exact c h
 ·by_cases c:x=w.length
  ·subst c
   rw [T.rv];exact (List.reverse_perm _).nodup_iff.mpr (G.nd.sublist (List.take_sublist _ _))
  ·exact Ww x c
 ·by_cases c:x=w.length
  ·subst c
   obtain ⟨k,hk,rfl⟩:=(Bo y).mp h;exact (mem _ (by have:=zlt k hk;omega) _).mpr (.inr ⟨rfl,k,hk,rfl⟩)
  ·rcases (mem x c y).mp h with h| ⟨rfl,k,hk,rfl⟩
   ·exact up _ _ (g.sym _ _ h)
   ·exact (Bo _).mpr ⟨k,hk,rfl⟩
 ·rw [T.l] at hx
  by_cases c:x=w.length
  ·subst c
   exact .step (con _ (zlt 0 (b9 _))) ((mem _ (by have:=zlt 0 (b9 _);omega) _).mpr (.inr ⟨rfl,0,b9 _,rfl⟩))
  ·exact con x (by omega)
structure SF (w w':W) (R:List Nat) (f:Nat):Prop where
 z:∀k,k<R.length→R.getD k 0∈R
 zlt:∀k,k<R.length→R.getD k 0<w.length
 inj:∀i j,i<R.length→j<R.length→R.getD i 0=R.getD j 0→i=j
 dv:∀y,aF w' (w.length,y)↔∃k,k≤f∧y=R.getD k 0
 dx:∀x,x≠w.length→∀y,aF w' (x,y)↔aF w (x,y)∨(y=w.length∧∃k,k≤f∧x=R.getD k 0)
 n1:∀x y,aF w (x,y)→¬bG R x y→aW w' (x,y)=aW w (x,y)
 n1o:∀i,f≤i→i+1<R.length→aW w' (R.getD i 0,R.getD (i+1) 0)=(R.getD (i+1) 0,ae R (R.getD (i+1) 0))
 n1e:aW w' (R.getD (R.length-1) 0,R.getD 0 0)=(R.getD 0 0,w.length)
 n2:∀k,k<f→aW w' (R.getD k 0,R.getD (k+1) 0)=(R.getD (k+1) 0,w.length)
 n3:∀k,k<f→aW w' (R.getD (k+1) 0,w.length)=(w.length,R.getD k 0)
 n3e:aW w' (R.getD 0 0,w.length)=(w.length,R.getD f 0)
 n4:∀k,k≤f→aW w' (w.length,R.getD k 0)=(R.getD k 0,ae R (R.getD k 0))
theorem qG(G:bR w R)(T:Step w w' R f):SF w w' R f:=by
 have g:=G.g;have g':=ni G T;have fn:=T.fn;have f1:=T.f1;have zR:∀k,k<R.length→R.getD k 0∈R:=λk h=>ay h;have zlt:∀k,k<R.length→R.getD k 0<w.length:=λk h=>bu (G.hd _ (zR k h)).1;have inj:∀i j,i<R.length→j<R.length→R.getD i 0=R.getD j 0→i=j:=λi j hi hj e=>getD_inj G.nd hi hj e;have F7:∀x,w.length∉row w x:=λx h=>fB _ (g.rng _ _ h);have sx:∀i,i+1<R.length→ae R (R.getD i 0)=R.getD (i+1) 0:=λi h=>aD G.nd h;have se:ae R (R.getD (R.length-1) 0)=R.getD 0 0:=aX G.nd (by omega)
 have Di:∀x,x∈(R.take (f+1)).reverse↔∃k,k≤f∧x=R.getD k 0:=λx=>by
  rw [List.mem_reverse]
  constructor
  ·intro h
   obtain ⟨i,hi,rfl⟩:=eX.mp h;rw [b8] at hi;exact ⟨i,by omega,by rw [vO,aK,bq (by omega)];rfl⟩
  ·rintro ⟨k,hk,rfl⟩
   refine eX.mpr ⟨k,by rw [b8];omega,?_⟩
   rw [vO,aK,bq (by omega)];rfl
 have dx:∀x,x≠w.length→∀y,aF w' (x,y)↔aF w (x,y)∨(y=w.length∧∃k,k≤f∧x=R.getD k 0):=λx hx y=>by
  show y∈row w' x↔y∈row w x∨_
  by_cases c:∃k,k≤f∧x=R.getD k 0
  ·obtain ⟨k,hk,rfl⟩:=c
   by_cases k0:k=0
   ·subst k0
    rw [T.r0,bQ];exact ⟨λh=>h.elim (λz=> .inr ⟨z,0,hk,rfl⟩) .inl,λh=>h.elim .inr (λz=> .inl z.1)⟩
   ·rw [T.rk k (by omega) hk,cq,gF]
    exact ⟨λh=>h.elim .inl (λz=> .inr ⟨z,k,hk,rfl⟩),λh=>h.elim .inl (λz=> .inr z.1)⟩
  ·rw [T.ro x hx (λk hk z=>c ⟨k,hk,z⟩)]
   exact ⟨.inl,λh=>h.elim id (λz=>absurd z.2 c)⟩
 have Ji:∀k,k<R.length→(row w (R.getD k 0)).length≠0:=λk hk z=>by
  have:=(G.hd _ (zR k hk)).1
  rw [BQ.mp z] at this;cases this
 have s0:∀x,x∈row w (R.getD 0 0)→x≠(row w (R.getD 0 0)).getD ((row w (R.getD 0 0)).length-1) 0→ae (row w' (R.getD 0 0)) x=ae (row w (R.getD 0 0)) x:=λx h1 h2=>by
  rw [T.r0];exact rb (by rw [←T.r0];exact g'.nod _) h1 h2
 have sk:∀k,1≤k→k≤f→∀x,x∈row w (R.getD k 0)→x≠(row w (R.getD k 0)).getD ((row w (R.getD k 0)).length-1) 0→ae (row w' (R.getD k 0)) x=ae (row w (R.getD k 0)) x:=λk h1 h2 x h3 h4=>by
  rw [T.rk k h1 h2];exact rd (by rw [←T.rk k h1 h2];exact g'.nod _) h3 h4
 have lastOf:∀y∈R,∀x,x=(row w y).getD ((row w y).length-1) 0→bG R x y:=λy hy x e=>by
  have:=G.ls y hy
  rw [←e] at this;exact ⟨this.1,this.2.symm⟩
 have HS:∀k,1≤k→k≤f→ae (row w' (R.getD k 0)) ((row w (R.getD k 0)).getD ((row w (R.getD k 0)).length-1) 0)=w.length:=λk h1 h2=>by
  have nd:=g'.nod (R.getD k 0);have ln:=Ji k (by omega)
  rw [T.rk k h1 h2] at nd ⊢;have h:=aD (i:=(row w (R.getD k 0)).length-1) nd (by rw [cj,uc];omega)
  have e1:(row w (R.getD k 0)++ [w.length]).getD ((row w (R.getD k 0)).length-1) 0=(row w (R.getD k 0)).getD ((row w (R.getD k 0)).length-1) 0:=by
   rw [aK,dH (by omega),←aK]
  have e2:(row w (R.getD k 0)++ [w.length]).getD ((row w (R.getD k 0)).length-1+1) 0=w.length:=by
   rw [aK,fA (by omega),show (row w (R.getD k 0)).length-1+1-(row w (R.getD k 0)).length=0 by omega];rfl
  rw [e1,e2] at h;exact h
 refine ⟨zR,zlt,inj,λy=>by show y∈row w' w.length↔_;rw [T.rv];exact Di y,dx,λx y hd n=>?_,λi h1 h2=>?_,?_,λk hk=>?_,λk hk=>?_,?_,λk hk=>?_⟩
 ·
  show (y,ae (row w' y) x)=(y,ae (row w y) x);have xy:x∈row w y:=g.sym _ _ hd
  by_cases c:∃k,k≤f∧y=R.getD k 0
  ·obtain ⟨k,hk,rfl⟩:=c
   have nl:x≠(row w (R.getD k 0)).getD ((row w (R.getD k 0)).length-1) 0:=λe=>n (lastOf _ (zR k (by omega)) x e)
   by_cases k0:k=0
   ·subst k0;rw [s0 x xy nl]
   ·rw [sk k (by omega) hk x xy nl]
  ·rw [T.ro y (by have:=g.rng _ _ hd;omega) (λk hk z=>c ⟨k,hk,z⟩)]
 ·
  have hm:=zR (i+1) h2;obtain ⟨e,ne⟩:=G.sQ hm (zR i (by omega)) (sx i h2)
  show (_,ae (row w' (R.getD (i+1) 0)) (R.getD i 0))=_;rw [T.ro _ (by have:=zlt (i+1) h2;omega) (λk hk z=>by have:=inj _ _ h2 (by omega) z;omega)]
  have e2:=aX (g.nod (R.getD (i+1) 0)) (i:=(row w (R.getD (i+1) 0)).length-1) (by omega)
  rw [e] at e2;rw [e2,(G.hd _ hm).2]
 ·
  have hm:=zR 0 (by omega)
  obtain ⟨e,ne⟩:=G.sQ hm (zR (R.length-1) (by omega)) se
  show (_,ae (row w' (R.getD 0 0)) (R.getD (R.length-1) 0))=_;rw [T.r0];have nd:=g'.nod (R.getD 0 0);rw [T.r0] at nd;have e2:=aX nd (i:=(row w (R.getD 0 0)).length) (by simp)
  have e3:(w.length::row w (R.getD 0 0)).getD (row w (R.getD 0 0)).length 0=R.getD (R.length-1) 0:=by
   rw [←e,show (row w (R.getD 0 0)).length=(row w (R.getD 0 0)).length-1+1 by omega,j4];simp
  rw [e3] at e2;rw [e2];rfl
 ·
  have hm:=zR (k+1) (by omega)
  obtain ⟨e,ne⟩:=G.sQ hm (zR k (by omega)) (sx k (by omega))
  show (_,ae (row w' (R.getD (k+1) 0)) (R.getD k 0))=_
  have:=HS (k+1) (by omega) (by omega)
  rw [e] at this;rw [this]
 ·
  show (_,ae (row w' w.length) (R.getD (k+1) 0))=_;have nd:=g'.nod w.length;rw [T.rv] at nd ⊢;have l:(R.take (f+1)).reverse.length=f+1:=by rw [pk,b8];omega
  have h:=aD (i:=f-(k+1)) nd (by omega)
  rw [dA fn (by omega),show f-(k+1)+1=f-k by omega,dA fn (by omega)] at h
  rw [h]
 ·
  show (_,ae (row w' w.length) (R.getD 0 0))=_;have nd:=g'.nod w.length;rw [T.rv] at nd ⊢;have l:(R.take (f+1)).reverse.length=f+1:=by rw [pk,b8];omega
  have h:=aX nd (i:=f) (by omega)
  have e0:=dA fn (b9 f);have e1:=dA fn (bh f);rw [Nat.sub_zero] at e0;rw [kc] at e1;rw [e0,e1] at h;rw [h]
 ·
  have hm:=zR k (by omega)
  show (_,ae (row w' (R.getD k 0)) w.length)=_;have nd:=g'.nod (R.getD k 0);have ln:=Ji k (by omega)
  by_cases k0:k=0
  ·subst k0
   rw [T.r0] at nd ⊢;have h:=aD (i:=0) nd (by rw [dY];omega)
   rw [List.getD_cons_zero,j4,(G.hd _ hm).2] at h;rw [h]
  ·rw [T.rk k (by omega) hk] at nd ⊢
   have h:=aX nd (i:=(row w (R.getD k 0)).length) (by simp)
   have e1:(row w (R.getD k 0)++ [w.length]).getD (row w (R.getD k 0)).length 0=w.length:=by
    rw [aK,fA (bh _),kc];rfl
   have e2:(row w (R.getD k 0)++ [w.length]).getD 0 0=(row w (R.getD k 0)).getD 0 0:=by
    rw [aK,dH (by omega),←aK]
   rw [e1,e2,(G.hd _ hm).2] at h;rw [h]
end
end Wb
set_option maxHeartbeats 2000000
namespace Wb
section
variable {w w':W} {R:List Nat} {f:Nat}
structure De (w:W) (R:List Nat) (f:Nat):Prop where
 nd:(bL R f w.length).Nodup
 len:(bL R f w.length).length+f=R.length+2
 mem:∀x,x∈bL R f w.length↔x=R.getD 0 0∨x=w.length∨∃i,f≤i∧i<R.length∧x=R.getD i 0
 s0:ae (bL R f w.length) (R.getD 0 0)=w.length
 sv:ae (bL R f w.length) w.length=R.getD f 0
 si:∀i,f≤i→i<R.length→ae (bL R f w.length) (R.getD i 0)=ae R (R.getD i 0)
theorem AA(G:bR w R)(T:Step w w' R f):De w R f:=by
 have fn:=T.fn;have f1:=T.f1;have zR:∀k,k<R.length→R.getD k 0∈R:=λk h=>ay h;have zlt:∀k,k<R.length→R.getD k 0<w.length:=λk h=>bu (G.hd _ (zR k h)).1;have inj:∀i j,i<R.length→j<R.length→R.getD i 0=R.getD j 0→i=j:=λi j hi hj e=>getD_inj G.nd hi hj e
 have dm:∀x,x∈R.drop f↔∃i,f≤i∧i<R.length∧x=R.getD i 0:=λx=>by
  constructor
  ·intro h
   obtain ⟨i,hi,rfl⟩:=eX.mp h;rw [eN] at hi;exact ⟨f+i,by omega,by omega,by rw [List.getElem_drop,aK,bq (by omega)];rfl⟩
  ·rintro ⟨i,h1,h2,rfl⟩
   refine eX.mpr ⟨i-f,by rw [eN];omega,?_⟩
   rw [List.getElem_drop,aK,bq h2];simp only [show f+(i-f)=i by omega];rfl
 have nd:(bL R f w.length).Nodup:=by
  unfold bL;refine fJ.mpr ⟨λh=>?_,fJ.mpr ⟨λh=>?_,G.nd.sublist (List.drop_sublist _ _)⟩⟩
  ·rcases bQ.mp h with h|h
   ·have:=zlt 0 (by omega);omega
   ·obtain ⟨i,h1,h2,e⟩:=(dm _).mp h
    have:=inj 0 i (by omega) h2 e;omega
  ·obtain ⟨i,h1,h2,e⟩:=(dm _).mp h
   have:=zlt i h2;omega
 have len:(bL R f w.length).length=R.length-f+2:=by unfold bL;simp
 have get:∀i,f≤i→i<R.length→(bL R f w.length).getD (i-f+2) 0=R.getD i 0:=λi h1 h2=>by
  unfold bL;rw [j4,j4,aK,vL,show f+(i-f)=i by omega,←aK]
 have g0:(bL R f w.length).getD 0 0=R.getD 0 0:=rfl;have g1:(bL R f w.length).getD 1 0=w.length:=rfl;refine ⟨nd,by omega,λx=>?_,?_,?_,λi h1 h2=>?_⟩
 ·unfold bL
  rw [bQ,bQ,dm]
 ·have:=aD nd (i:=0) (by omega)
  rw [g0] at this;exact this
 ·have:=aD nd (i:=1) (by omega)
  have e:=get f (bh _) fn;rw [kc] at e;rw [g1] at this;rw [this];exact e
 ·by_cases c:i+1<R.length
  ·have:=aD nd (i:=i-f+2) (by omega)
   have e:=get (i+1) (by omega) c
   rw [get i h1 h2,show i-f+2+1=i+1-f+2 by omega,e] at this
   rw [this,aD G.nd c]
  ·have:=aX nd (i:=i-f+2) (by omega)
   rw [get i h1 h2,g0] at this;rw [this,aX G.nd (by omega)]
theorem De.bG(F:De w R f){x y:Nat}(h:bG (bL R f w.length) x y):(x=R.getD 0 0∧y=w.length)∨(x=w.length∧y=R.getD f 0)∨∃i,f≤i∧i<R.length∧x=R.getD i 0∧y=ae R (R.getD i 0):=by
 obtain ⟨hx,e⟩:=h
 rcases (F.mem x).mp hx with rfl|rfl| ⟨i,h1,h2,rfl⟩
 ·exact .inl ⟨rfl,by rw [e,F.s0]⟩
 ·exact .inr (.inl ⟨rfl,by rw [e,F.sv]⟩)
 ·exact .inr (.inr ⟨i,h1,h2,rfl,by rw [e,F.si i h1 h2]⟩)
open Classical in
theorem CZ(G:bR w R)(T:Step w w' R f):kj w':=by
 have g:=G.g;have g':=ni G T;have fn:=T.fn;have f1:=T.f1;have K:=qG G T;have len:=G.len;have zlt:=K.zlt;have lX:∀k,k<R.length→R.getD k 0≠w.length:=λk h=>by have:=zlt k h;omega
 have sx:∀i,i+1<R.length→ae R (R.getD i 0)=R.getD (i+1) 0:=λi h=>aD G.nd h;have se:ae R (R.getD (R.length-1) 0)=R.getD 0 0:=aX G.nd (by omega)
 intro c sy ev
 let s:Nat→Bool:=λk=>par (λi=>c w.length (R.getD i 0)) (List.range (k+1))
 let sp:Nat→Bool:=λk=>match k with|0=>false|k+1=>s k
 have ss:∀k,s (k+1)=(s k).xor (c w.length (R.getD (k+1) 0)):=λk=>by
  show par _ (List.range (k+1+1))=_;rw [List.range_succ,jf];show (s k).xor ((c w.length (R.getD (k+1) 0)).xor false)=_;rw [t8]
 have s0:s 0=c w.length (R.getD 0 0):=by
  show (c w.length (R.getD 0 0)).xor false=_;rw [t8]
 have Gm:R.take (f+1)=(List.range (f+1)).map λi=>R.getD i 0:=by
  refine List.ext_getElem (by rw [b8,aJ,gG];omega) λi h1 h2=>?_
  rw [b8] at h1;rw [vO,List.getElem_map,List.getElem_range,aK,bq (by omega)];rfl
 have oH:∀(h:Nat→Bool)(φ:Nat→Nat)(l:List Nat),par h (l.map φ)=par (λi=>h (φ i)) l:=λh φ l=>by
  induction l with
  |nil=>rfl
  |cons a l ih=>rw [lg,par,par,ih]
 have sf:s f=false:=by
  have:=ev w.length (by rw [T.l];omega)
  rw [T.rv,yD,Gm,oH] at this;exact this
 let de:Nat→Nat→Bool:=λx y=>decide (∃k,k<f∧x=R.getD k 0∧y=R.getD (k+1) 0∧s k=true)
 have Kd:∀k,k<f→∀y,de (R.getD k 0) y=(decide (y=R.getD (k+1) 0)&&s k):=λk hk y=>by
  show decide _=_
  by_cases c1:y=R.getD (k+1) 0
  ·cases hs:s k with
   |true=>rw [decide_eq_true ⟨k,hk,rfl,c1,hs⟩,decide_eq_true c1];rfl
   |false=>
    rw [Bool.and_false];refine decide_eq_false ?_;rintro ⟨j,hj,e,_,h⟩
    have:=K.inj k j (by omega) (by omega) e
    subst this;rw [hs] at h;cases h
  ·rw [decide_eq_false c1,t7]
   refine decide_eq_false ?_;rintro ⟨j,hj,e,e2,h⟩
   have:=K.inj k j (by omega) (by omega) e
   subst this;exact c1 e2
 have N0:∀k,k<f→∀x,de x (R.getD (k+1) 0)=(decide (x=R.getD k 0)&&s k):=λk hk x=>by
  show decide _=_
  by_cases c1:x=R.getD k 0
  ·cases hs:s k with
   |true=>rw [decide_eq_true ⟨k,hk,c1,rfl,hs⟩,decide_eq_true c1];rfl
   |false=>
    rw [Bool.and_false];refine decide_eq_false ?_;rintro ⟨j,hj,_,e,h⟩
    have:=K.inj (k+1) (j+1) (by omega) (by omega) e
    have:k=j:=by omega
    subst this;rw [hs] at h;cases h
  ·rw [decide_eq_false c1,t7]
   refine decide_eq_false ?_;rintro ⟨j,hj,e2,e,h⟩
   have:=K.inj (k+1) (j+1) (by omega) (by omega) e
   have:k=j:=by omega
   subst this;exact c1 e2
 have NY:∀x y,(∀k,k<f→x≠R.getD k 0)→de x y=false:=λx y h=>decide_eq_false λ⟨k,hk,e,_⟩=>h k hk e;have NZ:∀x y,(∀k,k<f→y≠R.getD (k+1) 0)→de x y=false:=λx y h=>decide_eq_false λ⟨k,hk,_,e,_⟩=>h k hk e
 have tie:∀k,k+1<R.length→R.getD (k+1) 0∈row w (R.getD k 0):=λk hk=>by
  have:=(G.hd _ (K.z k (by omega))).1
  rw [sx k hk] at this;exact this
 obtain ⟨S,SF,SC⟩:=G.bnd (λx y=>((c x y).xor (de x y)).xor (de y x)) (λx y=>by
   show ((c x y).xor (de x y)).xor (de y x)=((c y x).xor (de y x)).xor (de x y);rw [sy x y];cases c y x<;>cases de x y<;>cases de y x<;>rfl) (λp hp=>by
   have e:par (λy=>((c p y).xor (de p y)).xor (de y p)) (row w p)=((par (c p) (row w p)).xor (par (de p) (row w p))).xor (par (λy=>de y p) (row w p)):=by
    rw [oI (λy=>(c p y).xor (de p y)) (λy=>de y p),oI (c p) (de p)]
   rw [e];have x9:=ev p (by rw [T.l];omega)
   by_cases hk:∃k,k≤f∧p=R.getD k 0
   ·obtain ⟨k,hk,rfl⟩:=hk
    have hc:par (c (R.getD k 0)) (row w (R.getD k 0))=c w.length (R.getD k 0):=by
     by_cases k0:k=0
     ·subst k0
      rw [T.r0,par] at x9;rw [sy w.length];cases h1:c (R.getD 0 0) w.length<;>cases h2:par (c (R.getD 0 0)) (row w (R.getD 0 0))<;>rw [h1,h2] at x9<;>simp at x9 ⊢
     ·rw [T.rk k (by omega) hk,jf,par,par,t8] at x9
      rw [sy w.length];cases h1:c (R.getD k 0) w.length<;>cases h2:par (c (R.getD k 0)) (row w (R.getD k 0))<;>rw [h1,h2] at x9<;>simp at x9 ⊢
    have h1:par (de (R.getD k 0)) (row w (R.getD k 0))=if k<f then s k else false:=by
     by_cases kf:k<f
     ·rw [if_pos kf,jI (λy _=>Kd k kf y)]
      exact kM (g.nod _) (tie k (by omega))
     ·rw [if_neg kf]
      exact fQ λy _=>NY _ _ λj hj e=>by have:=K.inj k j (by omega) (by omega) e;omega
    have h2:par (λy=>de y (R.getD k 0)) (row w (R.getD k 0))=sp k:=by
     cases k with
     |zero=>exact fQ λy _=>NZ _ _ λj hj e=>by have:=K.inj 0 (j+1) (by omega) (by omega) e;omega
     |succ k=>
      rw [jI (λy _=>N0 k (by omega) y)]
      exact kM (g.nod _) (g.sym _ _ (tie k (by omega)))
    rw [hc,h1,h2];cases k with
    |zero=>
     rw [if_pos (by omega),s0]
     show ((c w.length (R.getD 0 0)).xor _).xor false=false;rw [Bool.xor_self];rfl
    |succ k=>
     show (_:Bool).xor (s k)=false
     by_cases kf:k+1<f
     ·rw [if_pos kf,ss k]
      cases s k<;>cases c w.length (R.getD (k+1) 0)<;>rfl
     ·rw [if_neg kf]
      have:k+1=f:=by omega
      have h:=ss k;rw [this,sf] at h;rw [this];cases h1:s k<;>cases h2:c w.length (R.getD f 0)<;>rw [h1,h2] at h<;>simp at h ⊢
   ·have n1:∀k,k≤f→p≠R.getD k 0:=λk h z=>hk ⟨k,h,z⟩
    rw [T.ro p (by omega) n1] at x9
    rw [x9,fQ λy _=>NY p y λk h=>n1 k (by omega),fQ λy _=>NZ y p λk h=>n1 (k+1) (by omega)]
    rfl)
 have vn:∀i,i<R.length→S (R.getD i 0,ae R (R.getD i 0))=S (R.getD 0 0,ae R (R.getD 0 0)):=by
  intro i
  induction i with
  |zero=>intro _;rfl
  |succ i ih=>
   intro h;rw [←ih (by omega)]
   have d:aF w (R.getD i 0,ae R (R.getD i 0)):=(G.hd _ (K.z i (by omega))).1
   rw [SF _ d,G.outer ⟨K.z i (by omega),rfl⟩,sx i h]
 generalize ho:S (R.getD 0 0,ae R (R.getD 0 0))=o at vn
 let ix:Nat→Nat:=λx=>R.idxOf x
 have Ll:∀k,k<R.length→ix (R.getD k 0)=k:=λk hk=>by
  show R.idxOf _=k;rw [aK,bq hk];exact G.nd.idxOf_getElem k hk
 let U:Nat×Nat→Bool:=λd=>if d.1=w.length then o.xor (s (ix d.2)) else if d.2=w.length then o.xor (sp (ix d.1)) else if ∃k,k<f∧d.1=R.getD k 0∧d.2=R.getD (k+1) 0 then o.xor (s (ix d.1)) else S d
 have Uv:∀k,k≤f→U (w.length,R.getD k 0)=o.xor (s k):=λk hk=>by
  show (if w.length=w.length then o.xor (s (ix (R.getD k 0))) else _)=_;rw [if_pos rfl,Ll k (by omega)]
 have Ux:∀k,k≤f→U (R.getD k 0,w.length)=o.xor (sp k):=λk hk=>by
  show (if R.getD k 0=w.length then _ else if w.length=w.length then o.xor (sp (ix (R.getD k 0))) else _)=_;rw [if_neg (lX k (by omega)),if_pos rfl,Ll k (by omega)]
 have Ua:∀k,k<f→U (R.getD k 0,R.getD (k+1) 0)=o.xor (s k):=λk hk=>by
  show (if R.getD k 0=w.length then _ else if R.getD (k+1) 0=w.length then _ else if _ then o.xor (s (ix (R.getD k 0))) else _)=_;rw [if_neg (lX k (by omega)),if_neg (lX (k+1) (by omega)),if_pos ⟨k,hk,rfl,rfl⟩,Ll k (by omega)]
 have Uo:∀x y,x≠w.length→y≠w.length→(∀k,k<f→x=R.getD k 0→y≠R.getD (k+1) 0)→U (x,y)=S (x,y):=λx y h1 h2 h3=>by
  show (if x=w.length then _ else if y=w.length then _ else if _ then _ else S (x,y))=_;rw [if_neg h1,if_neg h2,if_neg (λ⟨k,hk,e1,e2⟩=>h3 k hk e1 e2)]
 have Qk:∀b:Bool,b.xor false=b:=t8;refine ⟨U,λd hd=>?_,λx y hd=>?_⟩
 ·obtain ⟨x,y⟩:=d
  by_cases xv:x=w.length
  ·subst xv
   obtain ⟨k,hk,rfl⟩:=(K.dv y).mp hd;rw [K.n4 k hk,Uv k hk]
   by_cases kf:k<f
   ·rw [sx k (by omega),Ua k kf]
   ·have:k=f:=by omega
    subst this
    rw [Uo _ _ (lX k (by omega)) (by
     have:=bc (K.z k (by omega))
     have:=bu (G.hd _ this).1
     omega) (λj hj e=>by have:=K.inj k j (by omega) (by omega) e;omega),vn k (by omega),sf,Qk]
  ·by_cases yv:y=w.length
   ·subst yv
    rcases (K.dx x xv _).mp hd with h| ⟨_,k,hk,rfl⟩
    ·exact absurd (g.rng _ _ h) (fB _)
    ·cases k with
     |zero=>
      rw [K.n3e,Ux 0 hk,Uv f (bh _),sf]
     |succ k=>
      rw [K.n3 k (by omega),Ux (k+1) hk,Uv k (by omega)]
   ·have d0:aF w (x,y):=by
     rcases (K.dx x xv y).mp hd with h| ⟨h,_⟩
     ·exact h
     ·exact absurd h yv
    by_cases ad:bG R x y
    ·obtain ⟨hx,rfl⟩:=ad
     obtain ⟨i,hi,rfl⟩:∃i,i<R.length∧x=R.getD i 0:=by
      obtain ⟨i,hi,e⟩:=eX.mp hx;exact ⟨i,hi,by rw [aK,bq hi];exact e.symm⟩
     by_cases c1:i<f
     ·rw [sx i (by omega),K.n2 i c1,Ua i c1,Ux (i+1) (by omega)]
     ·have u1:U (R.getD i 0,ae R (R.getD i 0))=o:=by
       rw [Uo _ _ xv yv (λj hj e=>by have:=K.inj i j (by omega) (by omega) e;omega),vn i hi]
      rw [u1]
      by_cases c2:i+1<R.length
      ·rw [sx i c2,K.n1o i (by omega) c2,Uo _ _ (lX _ c2) (by
        have:=bc (K.z (i+1) c2)
        have:=bu (G.hd _ this).1
        omega) (λj hj e=>by have:=K.inj (i+1) j (by omega) (by omega) e;omega),vn (i+1) c2]
      ·have:i=R.length-1:=by omega
       subst this;rw [se,K.n1e,Ux 0 (b9 _)];exact (Qk o).symm
    ·have e:=K.n1 x y d0 ad
     have tr:=(G.tri x y d0 ad).2;have dn:=eo g d0
     have lo:∀p q,aF w (p,q)→¬bG R p q→U (p,q)=S (p,q):=λp q h1 h2=>by
      have a1:=bu (show q∈row w p from h1);have a2:=g.rng _ _ (show q∈row w p from h1);exact Uo p q (by omega) (by omega) λk hk e1 e2=>h2 ⟨by rw [e1];exact K.z k (by omega),by rw [e1,e2,sx k (by omega)]⟩
     rw [e,lo x y d0 ad,SF _ d0];exact (lo _ _ dn tr).symm
 ·by_cases xv:x=w.length
  ·subst xv
   obtain ⟨k,hk,rfl⟩:=(K.dv y).mp hd;rw [Uv k hk,Ux k hk];cases k with
   |zero=>
    rw [s0];show (o.xor _).xor (o.xor false)=_;cases o<;>cases c w.length (R.getD 0 0)<;>rfl
   |succ k=>
    rw [ss k];show (o.xor _).xor (o.xor (s k))=_;cases o<;>cases s k<;>cases c w.length (R.getD (k+1) 0)<;>rfl
  ·by_cases yv:y=w.length
   ·subst yv
    rcases (K.dx x xv _).mp hd with h| ⟨_,k,hk,rfl⟩
    ·exact absurd (g.rng _ _ h) (fB _)
    ·rw [Uv k hk,Ux k hk,sy]
     cases k with
     |zero=>
      rw [s0];show (o.xor false).xor (o.xor _)=_;cases o<;>cases c w.length (R.getD 0 0)<;>rfl
     |succ k=>
      rw [ss k];show (o.xor (s k)).xor (o.xor _)=_;cases o<;>cases s k<;>cases c w.length (R.getD (k+1) 0)<;>rfl
   ·have d0:aF w (x,y):=by
     rcases (K.dx x xv y).mp hd with h| ⟨h,_⟩
     ·exact h
     ·exact absurd h yv
    have sc:=SC x y d0
    by_cases a1:∃k,k<f∧x=R.getD k 0∧y=R.getD (k+1) 0
    ·obtain ⟨k,hk,rfl,rfl⟩:=a1
     have e1:S (R.getD k 0,R.getD (k+1) 0)=o:=by rw [←sx k (by omega)];exact vn k (by omega)
     have e2:de (R.getD k 0) (R.getD (k+1) 0)=s k:=by rw [Kd k hk];simp
     have e3:de (R.getD (k+1) 0) (R.getD k 0)=false:=decide_eq_false λ⟨j,hj,e,e',_⟩=>by
      have:=K.inj (k+1) j (by omega) (by omega) e
      have:=K.inj k (j+1) (by omega) (by omega) e'
      omega
     rw [Ua k hk,Uo _ _ (lX (k+1) (by omega)) (lX k (by omega)) (λj hj e e'=>by
      have:=K.inj (k+1) j (by omega) (by omega) e
      have:=K.inj k (j+1) (by omega) (by omega) e'
      omega)]
     rw [e1,e2,e3] at sc
     revert sc
     cases o<;>cases s k<;>cases S (R.getD (k+1) 0,R.getD k 0)<;>cases c (R.getD k 0) (R.getD (k+1) 0)<;>simp
    ·by_cases a2:∃k,k<f∧y=R.getD k 0∧x=R.getD (k+1) 0
     ·obtain ⟨k,hk,rfl,rfl⟩:=a2
      have e1:S (R.getD k 0,R.getD (k+1) 0)=o:=by rw [←sx k (by omega)];exact vn k (by omega)
      have e2:de (R.getD k 0) (R.getD (k+1) 0)=s k:=by rw [Kd k hk];simp
      have e3:de (R.getD (k+1) 0) (R.getD k 0)=false:=decide_eq_false λ⟨j,hj,e,e',_⟩=>by
       have:=K.inj (k+1) j (by omega) (by omega) e
       have:=K.inj k (j+1) (by omega) (by omega) e'
       omega
      rw [Ua k hk,Uo _ _ (lX (k+1) (by omega)) (lX k (by omega)) (λj hj e e'=>a1 ⟨j,hj,e,e'⟩)]
      rw [e1,e2,e3] at sc
      revert sc
      cases o<;>cases s k<;>cases S (R.getD (k+1) 0,R.getD k 0)<;>cases c (R.getD (k+1) 0) (R.getD k 0)<;>simp
     ·have e2:de x y=false:=decide_eq_false λ⟨j,hj,e,e',_⟩=>a1 ⟨j,hj,e,e'⟩
      have e3:de y x=false:=decide_eq_false λ⟨j,hj,e,e',_⟩=>a2 ⟨j,hj,e,e'⟩;rw [Uo x y xv yv (λj hj e e'=>a1 ⟨j,hj,e,e'⟩),Uo y x yv xv (λj hj e e'=>a2 ⟨j,hj,e,e'⟩),sc,e2,e3];simp
theorem yY(G:bR w R)(T:Step w w' R f):bR w' (bL R f w.length):=by
 have g:=G.g;have g':=ni G T;have fn:=T.fn;have f1:=T.f1;have K:=qG G T;have F:=AA G T;have len:=G.len;have lX:∀k,k<R.length→R.getD k 0≠w.length:=λk h=>by have:=K.zlt k h;omega
 have sx:∀i,i+1<R.length→ae R (R.getD i 0)=R.getD (i+1) 0:=λi h=>aD G.nd h;have se:ae R (R.getD (R.length-1) 0)=R.getD 0 0:=aX G.nd (by omega)
 have Jf:∀k,k<R.length→(row w (R.getD k 0)).length≠0:=λk hk z=>by
  have:=(G.hd _ (K.z k hk)).1
  rw [BQ.mp z] at this;cases this
 have Xa:(R.take (f+1)).reverse.length=f+1:=by rw [pk,b8];omega
 have e0:=dA fn (b9 f);have ef:=dA fn (bh f);rw [Nat.sub_zero] at e0;rw [kc] at ef;have m0:R.getD 0 0∈bL R f w.length:=(F.mem _).mpr (.inl rfl);have mv:w.length∈bL R f w.length:=(F.mem _).mpr (.inr (.inl rfl));have mi:∀i,f≤i→i<R.length→R.getD i 0∈bL R f w.length:=λi h1 h2=>(F.mem _).mpr (.inr (.inr ⟨i,h1,h2,rfl⟩));have BF:∀i,f<i→i<R.length→row w' (R.getD i 0)=row w (R.getD i 0):=λi h1 h2=>T.ro _ (lX i h2) λk hk e=>by have:=K.inj i k h2 (by omega) e;omega
 refine ⟨g',F.nd,by have:=F.len;omega,λx hx=>?_,λx hx=>?_,λx y hd n=>?_,CZ G T⟩
 ·rcases (F.mem x).mp hx with rfl|rfl| ⟨i,h1,h2,rfl⟩
  ·rw [F.s0,T.r0]
   exact ⟨bP ..,rfl⟩
  ·rw [F.sv,T.rv]
   exact ⟨by rw [←ef];exact ay (by omega),ef⟩
  ·rw [F.si i h1 h2]
   have h:=G.hd _ (K.z i h2)
   by_cases c:i=f
   ·subst c
    rw [T.rk i f1 (bh _)];refine ⟨dW _ h.1,?_⟩;rw [aK,dH (by have:=Jf i h2;omega),←aK]
    exact h.2
   ·rw [BF i (by omega) h2];exact h
 ·rcases (F.mem x).mp hx with rfl|rfl| ⟨i,h1,h2,rfl⟩
  ·have h:=G.ls _ (K.z 0 (by omega))
   have el:(row w' (R.getD 0 0)).getD ((row w' (R.getD 0 0)).length-1) 0=R.getD (R.length-1) 0:=by
    have l0:=Jf 0 (by omega)
    rw [T.r0,dY,show (row w (R.getD 0 0)).length+1-1=(row w (R.getD 0 0)).length-1+1 by omega,j4]
    exact cR G.nd h.1 (K.z _ (by omega)) (by rw [h.2,se])
   rw [el];exact ⟨mi _ (by omega) (by omega),by rw [F.si _ (by omega) (by omega),se]⟩
  ·rw [T.rv,Xa,show f+1-1=f by omega,e0]
   exact ⟨m0,F.s0⟩
  ·by_cases c:i=f
   ·subst c
    have el:(row w' (R.getD i 0)).getD ((row w' (R.getD i 0)).length-1) 0=w.length:=by
     rw [T.rk i f1 (bh _),cj,uc,Nat.add_sub_cancel,aK,fA (bh _),kc];rfl
    rw [el];exact ⟨mv,F.sv⟩
   ·obtain ⟨e,ne⟩:=G.sQ (K.z i h2) (K.z (i-1) (by omega)) (by rw [sx (i-1) (by omega),show i-1+1=i by omega])
    rw [BF i (by omega) h2,e]
    refine ⟨mi _ (by omega) (by omega),?_⟩
    rw [F.si _ (by omega) (by omega),sx (i-1) (by omega),show i-1+1=i by omega]
 ·by_cases xv:x=w.length
  ·subst xv
   obtain ⟨k,hk,rfl⟩:=(K.dv y).mp hd
   have kf:k<f:=by
    apply Classical.byContradiction;intro c
    have:k=f:=by omega
    subst this;exact n ⟨mv,F.sv.symm⟩
   have e1:=K.n4 k hk;rw [sx k (by omega)] at e1
   rw [e1,K.n2 k kf,K.n3 k kf];refine ⟨rfl,λz=>?_⟩
   rcases F.bG z with ⟨_,h⟩ | ⟨h,_⟩ | ⟨i,h1,h2,h3,_⟩
   ·exact lX (k+1) (by omega) h
   ·exact lX k (by omega) h
   ·have:=K.inj k i (by omega) h2 h3;omega
  ·by_cases yv:y=w.length
   ·subst yv
    rcases (K.dx x xv _).mp hd with h| ⟨_,k,hk,rfl⟩
    ·exact absurd (g.rng _ _ h) (fB _)
    ·cases k with
     |zero=>exact absurd ⟨m0,F.s0.symm⟩ n
     |succ k=>
      have e4:=K.n4 k (by omega)
      rw [sx k (by omega)] at e4
      rw [K.n3 k (by omega),e4,K.n2 k (by omega)]
      refine ⟨rfl,λz=>?_⟩
      rcases F.bG z with ⟨h,_⟩ | ⟨_,h⟩ | ⟨i,h1,h2,h3,_⟩
      ·exact lX 0 (by omega) h.symm
      ·have:=K.inj k f (by omega) fn h;omega
      ·exact lX i h2 h3.symm
   ·have d0:aF w (x,y):=by
     rcases (K.dx x xv y).mp hd with h| ⟨h,_⟩
     ·exact h
     ·exact absurd h yv
    by_cases ad:bG R x y
    ·obtain ⟨hx,rfl⟩:=ad
     obtain ⟨i,hi,rfl⟩:∃i,i<R.length∧x=R.getD i 0:=by
      obtain ⟨i,hi,e⟩:=eX.mp hx;exact ⟨i,hi,by rw [aK,bq hi];exact e.symm⟩
     have c1:i<f:=by
      apply Classical.byContradiction;intro c;exact n ⟨mi i (by omega) hi,(F.si i (by omega) hi).symm⟩
     have e4:=K.n4 i (by omega)
     rw [sx i (by omega)] at e4
     rw [sx i (by omega),K.n2 i c1,K.n3 i c1,e4]
     refine ⟨rfl,λz=>?_⟩
     rcases F.bG z with ⟨h,_⟩ | ⟨h,_⟩ | ⟨j,h1,h2,_,h4⟩
     ·have:=K.inj (i+1) 0 (by omega) (by omega) h;omega
     ·exact lX (i+1) (by omega) h
     ·have:=bc (K.z j h2)
      have:=bu (G.hd _ this).1
      have h4:w.length=ae R (R.getD j 0):=h4;omega
    ·have step:∀p q,aF w (p,q)→¬bG R p q→aW w' (p,q)=aW w (p,q):=λp q h1 h2=>K.n1 p q h1 h2
     have t1:=G.tri x y d0 ad;have d1:=eo g d0;have t2:=G.tri _ _ d1 t1.2;have d2:=eo g d1;have e1:=step x y d0 ad;have e2:aW w' (aW w (x,y))=aW w (aW w (x,y)):=step _ _ d1 t1.2;have e3:aW w' (aW w (aW w (x,y)))=aW w (aW w (aW w (x,y))):=step _ _ d2 t2.2;rw [e1,e2,e3];refine ⟨t1.1,λz=>?_⟩;have b1:=bu (show (aW w (x,y)).2∈row w (aW w (x,y)).1 from d1);have b2:=g.rng _ _ (show (aW w (x,y)).2∈row w (aW w (x,y)).1 from d1)
     rcases F.bG z with ⟨_,h⟩ | ⟨h,_⟩ | ⟨i,h1,h2,h3,h4⟩
     ·omega
     ·omega
     ·exact t1.2 ⟨by rw [h3];exact K.z i h2,by rw [h4,←h3]⟩
theorem wx:bR [[1,2],[2,0],[0,1]] [0,1,2]:=by
 have BE:row [[1,2],[2,0],[0,1]] 0= [1,2]:=rfl;have Jq:row [[1,2],[2,0],[0,1]] 1= [2,0]:=rfl;have QL:row [[1,2],[2,0],[0,1]] 2= [0,1]:=rfl;have BF:∀x,3≤x→row [[1,2],[2,0],[0,1]] x= []:=λx h=>yM h;have c3:∀x,x<3→x=0∨x=1∨x=2:=λx h=>by omega
 have rl:∀{x y},y∈row [[1,2],[2,0],[0,1]] x→x<3:=λh=>bu h;have dec:∀x,x<3→∀y,y<3→(y∈row [[1,2],[2,0],[0,1]] x↔x≠y):=by decide
 have inR:∀{x y},y∈row [[1,2],[2,0],[0,1]] x→y<3:=λ {x y} h=>by
  rcases c3 x (rl h) with rfl|rfl|rfl
  ·rw [BE] at h;simp at h;omega
  ·rw [Jq] at h;simp at h;omega
  ·rw [QL] at h;simp at h;omega
 have g:Good [[1,2],[2,0],[0,1]]:=by
  refine ⟨λp q h=>inR h,λp h=>?_,λp=>?_,λp q h=>?_,λp hp=>?_⟩
  ·exact ((dec p (rl h) p (rl h)).mp h) rfl
  ·by_cases c:p<3
   ·rcases c3 p c with rfl|rfl|rfl<;>decide
   ·rw [BF p (by omega)];exact j8
  ·have a:=rl h
   have b:=inR h;exact (dec q b p a).mpr (Ne.symm ((dec p a q b).mp h))
  ·rcases c3 p hp with rfl|rfl|rfl
   ·exact .refl _
   ·exact .step (.refl _) (by rw [BE];simp)
   ·exact .step (.refl _) (by rw [BE];simp)
 have wg:∀x y,aF [[1,2],[2,0],[0,1]] (x,y)→(x,y)∈ [(0,1),(1,2),(2,0),(1,0),(0,2),(2,1)]:=λx y h=>by
  have a:=rl h;have b:=inR h;have n:=(dec x a y b).mp h
  rcases c3 x a with rfl|rfl|rfl<;>rcases c3 y b with rfl|rfl|rfl<;>first|exact absurd rfl n|decide
 have sc:ae [0,1,2] 0=1∧ae [0,1,2] 1=2∧ae [0,1,2] 2=0:=by decide
 refine ⟨g,by decide,by decide,by decide,by decide,λx y hd n=>?_,?_⟩
 ·have hm:=wg x y hd
  simp only [bQ,Prod.mk.injEq,vP,or_false] at hm
  rcases hm with ⟨rfl,rfl⟩ | ⟨rfl,rfl⟩ | ⟨rfl,rfl⟩ | ⟨rfl,rfl⟩ | ⟨rfl,rfl⟩ | ⟨rfl,rfl⟩
  ·exact absurd ⟨by simp,sc.1.symm⟩ n
  ·exact absurd ⟨by simp,sc.2.1.symm⟩ n
  ·exact absurd ⟨by simp,sc.2.2.symm⟩ n
  ·exact ⟨by decide,λz=>by have h:=z.2;revert h;decide⟩
  ·exact ⟨by decide,λz=>by have h:=z.2;revert h;decide⟩
  ·exact ⟨by decide,λz=>by have h:=z.2;revert h;decide⟩
 ·intro c sy ev
  have h0:=ev 0 (by decide)
  have h1:=ev 1 (by decide)
  rw [BE] at h0;rw [Jq] at h1;simp only [par,t8] at h0 h1;refine ⟨λd=>decide (d=(1,0)∨d=(0,2)∨d=(2,1))&&c 0 1,λd hd=>?_,λx y hd=>?_⟩
  ·obtain ⟨x,y⟩:=d
   have hm:=wg x y hd;simp only [bQ,Prod.mk.injEq,vP,or_false] at hm
   rcases hm with ⟨rfl,rfl⟩ | ⟨rfl,rfl⟩ | ⟨rfl,rfl⟩ | ⟨rfl,rfl⟩ | ⟨rfl,rfl⟩ | ⟨rfl,rfl⟩<;>(refine congrArg (·&&c 0 1) ?_;decide)
  ·have hm:=wg x y hd
   simp only [bQ,Prod.mk.injEq,vP,or_false] at hm;have e1:c 0 2=c 0 1:=by revert h0;cases c 0 1<;>cases c 0 2<;>simp
   have e2:c 1 2=c 0 1:=by
    rw [sy 1 0] at h1
    revert h1;cases c 0 1<;>cases c 1 2<;>simp
   rcases hm with ⟨rfl,rfl⟩ | ⟨rfl,rfl⟩ | ⟨rfl,rfl⟩ | ⟨rfl,rfl⟩ | ⟨rfl,rfl⟩ | ⟨rfl,rfl⟩
   ·simp
   ·simp [e2]
   ·rw [sy 2 0,e1];simp
   ·rw [sy 1 0];simp
   ·simp [e1]
   ·rw [sy 2 1,e2];simp
end
structure jv (w w':W) (f:Nat→Nat):Prop where
 len:w'.length=w.length
 lt:∀x,x<w.length→f x<w.length
 inj:∀x y,x<w.length→y<w.length→f x=f y→x=y
 onto:∀y,y<w.length→∃x,x<w.length∧f x=y
 rows:∀x,x<w.length→∃a b,row w x=a++b∧row w' (f x)=(b++a).map f
theorem sO{f:Nat→Nat}{x:Nat}:∀{l:List Nat},(∀y∈l,f y=f x→y=x)→(l.map f).idxOf (f x)=l.idxOf x
 | [],_=>rfl
 |a::l,h=>by
  rw [lg,vQ,vQ,sO λy hy=>h y (bV _ hy)]
  by_cases c:a=x
  ·subst c;simp
  ·have:f a≠f x:=λz=>c (h a (bP ..) z)
   have e1:(f a==f x)=false:=by simpa using this
   have e2:(a==x)=false:=by simpa using c
   rw [e1,e2]
theorem nj{f:Nat→Nat}{l:List Nat}{x:Nat}(h:∀y∈l,f y=f x→y=x)(hx:x∈l):ae (l.map f) (f x)=f (ae l x):=by
 have e:=jQ hx;show (l.map f).getD (((l.map f).idxOf (f x)+1)%(l.map f).length) 0=_;rw [sO h,aJ,aK,eJ,e];rfl
section
variable {w w':W} {f:Nat→Nat}
theorem jv.good(N:jv w w' f)(g:Good w):Good w':=
 good_ren g N.len N.lt N.inj N.onto λp hp=>by
  obtain ⟨a,b,e1,e2⟩:=N.rows p hp;rw [e1,e2];exact (List.perm_append_comm (l₁:=b) (l₂:=a)).map f
theorem jv.mem(N:jv w w' f){x z:Nat}(hx:x<w.length):z∈row w' (f x)↔∃y,y∈row w x∧f y=z:=by
 obtain ⟨a,b,e1,e2⟩:=N.rows x hx;rw [e2,cT]
 constructor
 ·rintro ⟨y,hy,rfl⟩
  exact ⟨y,by rw [e1];exact List.perm_append_comm.mem_iff.mp hy,rfl⟩
 ·rintro ⟨y,hy,rfl⟩
  rw [e1] at hy;exact ⟨y,List.perm_append_comm.mem_iff.mp hy,rfl⟩
theorem jv.dart(N:jv w w' f)(g:Good w){x y:Nat}(hx:x<w.length)(hy:y<w.length):aF w' (f x,f y)↔aF w (x,y):=by
 show f y∈row w' (f x)↔y∈row w x;rw [N.mem hx]
 constructor
 ·rintro ⟨z,hz,e⟩
  have:=N.inj z y (g.rng _ _ hz) hy e
  rw [←this];exact hz
 ·exact λh=>⟨y,h,rfl⟩
theorem jv.all(N:jv w w' f)(g:Good w){d:Nat×Nat}(h:aF w' d):∃x y,aF w (x,y)∧d=(f x,f y):=by
 obtain ⟨a,b⟩:=d;have ha:=bu (show b∈row w' a from h);rw [N.len] at ha;obtain ⟨x,hx,rfl⟩:=N.onto a ha;obtain ⟨y,hy,e⟩:=(N.mem hx).mp h;have e:f y=b:=e;exact ⟨x,y,hy,by rw [e]⟩
theorem jv.succ(N:jv w w' f)(g:Good w){x y:Nat}(h:y∈row w x):ae (row w' (f x)) (f y)=f (ae (row w x) y):=by
 obtain ⟨a,b,e1,e2⟩:=N.rows x (bu h);have hm:y∈a++b:=e1▸h;have yf:y∈b++a:=List.perm_append_comm.mem_iff.mp hm;have nd:=g.nod x;rw [e1] at nd;rw [e2,e1,nj (λz hz e=>N.inj z y (g.rng x z (by rw [e1];exact List.perm_append_comm.mem_iff.mp hz)) (g.rng _ _ h) e) yf,e7 nd hm]
theorem jv.EW(N:jv w w' f)(g:Good w){x y:Nat}(h:aF w (x,y)):aW w' (f x,f y)=(f (aW w (x,y)).1,f (aW w (x,y)).2):=by
 show (f y,ae (row w' (f y)) (f x))=(f y,f (ae (row w y) x));rw [N.succ g (g.sym _ _ h)]
theorem jv.D2(N:jv w w' f)(g:Good w){R:List Nat}{A:Nat×Nat→Prop}(D:Disc w R A):
  Disc w' (R.map f) λd=>∃x y,A (x,y)∧d=(f x,f y):=by
 have ke:∀{x y},aF w (x,y)→x<w.length∧y<w.length:=λh=>⟨bu h,g.rng _ _ h⟩;have Ac:∀p∈R,p<w.length:=λp hp=>(ke (D.ring p hp).1).2;have inj:∀p∈R,∀y∈R,f y=f p→y=p:=λp hp y hy e=>N.inj y p (Ac y hy) (Ac p hp) e
 have u0:∀{x y},aF w (x,y)→((∃x' y',A (x',y')∧(f x,f y)=(f x',f y'))↔A (x,y)):=λ {x y} h=>by
  constructor
  ·rintro ⟨x',y',a,e⟩
   have h':=ke (D.dart _ a);have e1:=N.inj x x' (ke h).1 h'.1 (congrArg Prod.fst e);have e2:=N.inj y y' (ke h).2 h'.2 (congrArg Prod.snd e);rw [e1,e2];exact a
  ·exact λa=>⟨x,y,a,rfl⟩
 have sR:∀p∈R,ae (R.map f) (f p)=f (ae R p):=λp hp=>nj (inj p hp) hp;have nx:∀{x y},aF w (x,y)→aF w ((aW w (x,y)).1,(aW w (x,y)).2):=λh=>eo g h;refine ⟨?_,by rw [aJ];exact D.len,?_,?_,?_,?_,?_⟩
 ·unfold List.Nodup
  rw [js];exact List.Pairwise.imp_of_mem (λ {a b} ha hb ne e=>ne (inj b hb a ha e)) D.nd
 ·rintro d ⟨x,y,a,rfl⟩
  have h:=D.dart _ a;exact (N.dart g (ke h).1 (ke h).2).mpr h
 ·intro d hd
  obtain ⟨x,y,h,rfl⟩:=N.all g hd;rw [N.EW g h,u0 h,u0 (nx h)];exact D.face _ h
 ·rintro d ⟨x,y,a,rfl⟩
  have h:=D.dart _ a;rw [N.EW g h,N.EW g (nx h),N.EW g (nx (nx h))];have e:=D.tri _ a;show (f (aW w (aW w (aW w (x,y)))).1,f (aW w (aW w (aW w (x,y)))).2)=_;rw [e]
 ·intro p' iL
  obtain ⟨p,hp,rfl⟩:=cT.mp iL;rw [sR p hp];have r:=D.ring p hp;have h:=ke r.1;refine ⟨(N.dart g h.1 h.2).mpr r.1,(u0 r.1).mpr r.2.1,λz=>r.2.2 ((u0 (g.sym _ _ r.1)).mp z)⟩
 ·intro p' q' hd n1 n2
  obtain ⟨p,q,h,e⟩:=N.all g hd;obtain ⟨rfl,rfl⟩:=Prod.mk.injEq .. ▸e;rw [u0 h,u0 (g.sym _ _ h)];refine D.sym p q h (λz=>n1 ⟨cT.mpr ⟨p,z.1,rfl⟩,by rw [sR p z.1,←z.2]⟩) (λz=>n2 ⟨cT.mpr ⟨q,z.1,rfl⟩,by rw [sR q z.1,←z.2]⟩)
theorem oH{α β:Type}(c:β→Bool)(f:α→β):∀l:List α,par c (l.map f)=par (λx=>c (f x)) l
 | []=>rfl
 |x::l=>by rw [lg,par,par,oH c f l]
open Classical in
theorem jv.bnd(N:jv w w' f)(g:Good w)(B:kj w):kj w':=by
 intro c sy ev;have ke:∀{x y},aF w (x,y)→x<w.length∧y<w.length:=λh=>⟨bu h,g.rng _ _ h⟩
 obtain ⟨S,h1,h2⟩:=B (λx y=>c (f x) (f y)) (λx y=>sy _ _) (λp hp=>by
  obtain ⟨a,b,e1,e2⟩:=N.rows p hp
  have:=ev (f p) (by rw [N.len];exact N.lt p hp)
  rw [e2,oH,jf] at this;rw [e1,jf,Bool.xor_comm];exact this)
 have val:∀{x y},aF w (x,y)→decide (∃x' y',aF w (x',y')∧S (x',y')=true∧(f x,f y)=(f x',f y'))=S (x,y):=λ {x y} h=>by
  by_cases s:S (x,y)=true
  ·rw [s]
   exact decide_eq_true ⟨x,y,h,s,rfl⟩
  ·rw [Bool.not_eq_true] at s
   rw [s];refine decide_eq_false ?_;rintro ⟨x',y',h',s',e⟩;have e1:=N.inj x x' (ke h).1 (ke h').1 (congrArg Prod.fst e);have e2:=N.inj y y' (ke h).2 (ke h').2 (congrArg Prod.snd e);rw [e1,e2,s'] at s;exact absurd s (by decide)
 have nx:∀{x y},aF w (x,y)→aF w ((aW w (x,y)).1,(aW w (x,y)).2):=λh=>eo g h;refine ⟨λd=>decide (∃x' y',aF w (x',y')∧S (x',y')=true∧d=(f x',f y')),λd hd=>?_,λa b hd=>?_⟩
 ·obtain ⟨x,y,h,rfl⟩:=N.all g hd
  rw [N.EW g h];show decide _=decide _;rw [val h,val (nx h)];exact h1 _ h
 ·obtain ⟨x,y,h,e⟩:=N.all g hd
  obtain ⟨rfl,rfl⟩:=Prod.mk.injEq .. ▸e;show (decide _).xor (decide _)=_;rw [val h,val (g.sym _ _ h)];exact h2 _ _ h
end
theorem bR.three{w:W}{R:List Nat}(G:bR w R)(l3:R.length=3){d:Nat×Nat}(hd:aF w d):aW w (aW w (aW w d))=d:=by
 by_cases c:bG R d.1 d.2
 ·have e1:aW w d=(d.2,ae R d.2):=G.outer c
  have m2:d.2∈R:=by rw [c.2];exact bc c.1
  have e2:=G.outer (x:=d.2) (y:=ae R d.2) ⟨m2,rfl⟩;have m3:=bc m2;have e3:=G.outer (x:=ae R d.2) (y:=ae R (ae R d.2)) ⟨m3,rfl⟩;rw [e1,e2,e3,c.2]
  have key:∀x∈R,ae R (ae R (ae R x))=x:=λx hx=>by
   match R,l3,G.nd,hx with
   | [a,b,e],_,nd,hx=>
    simp only [fJ,bQ,vP,or_false,not_or] at nd;have s1:ae [a,b,e] a=b:=bF (a:= []) (b:= [e]) (by simp [nd])
    have s2:ae [a,b,e] b=e:=bF (a:= [a]) (b:= []) (by simp [nd])
    have s3:ae [a,b,e] e=a:=cM (b:= [b]) (by simp [nd])
    simp only [bQ,vP,or_false] at hx
    rcases hx with rfl|rfl|rfl
    ·rw [s1,s2,s3]
    ·rw [s2,s3,s1]
    ·rw [s3,s1,s2]
  rw [key _ c.1];exact Prod.ext rfl c.2.symm
 ·exact (G.tri d.1 d.2 hd c).1
theorem z5{w:W}(g:Good w)(tri:∀d,aF w d→aW w (aW w (aW w d))=d){a b:Nat}(hd:aF w (a,b)):
  Disc w [a,b,ae (row w b) a] λd=>aF w d∧d≠(a,b)∧d≠(b,ae (row w b) a)∧d≠(ae (row w b) a,a):=by
 have e1:aW w (a,b)=(b,ae (row w b) a):=rfl;have d2:aF w (b,ae (row w b) a):=e1▸eo g hd;generalize hc:ae (row w b) a=c at*;have e3:=tri _ hd;rw [e1] at e3;have Tg:aW w (b,c)=(c,ae (row w c) b):=rfl
 have e2:aW w (b,c)=(c,a):=by
  rw [Tg] at e3 ⊢
  have:=congrArg Prod.fst e3
  exact congrArg _ this
 have d3:aF w (c,a):=e2▸eo g d2;have qP:aW w (c,a)=(a,b):=by rw [e2] at e3;exact e3
 have Cw:a≠b:=λz=>g.irr a (by have:b∈row w a:=hd;rw [←z] at this;exact this)
 have Hg:b≠c:=λz=>g.irr b (by have:c∈row w b:=d2;rw [←z] at this;exact this)
 have Hh:c≠a:=λz=>g.irr c (by have:a∈row w c:=d3;rw [←z] at this;exact this)
 have nd: [a,b,c].Nodup:=by simp [Cw,Hg,Ne.symm Hh]
 have s1:ae [a,b,c] a=b:=bF (a:= []) (b:= [c]) nd;have s2:ae [a,b,c] b=c:=bF (a:= [a]) (b:= []) nd;have s3:ae [a,b,c] c=a:=cM (b:= [b]) nd
 have step:∀d,aF w d→((d≠(a,b)∧d≠(b,c)∧d≠(c,a))↔(aW w d≠(a,b)∧aW w d≠(b,c)∧aW w d≠(c,a))):=λd h=>by
  have i1:aW w d=(a,b)↔d=(c,a):=⟨λz=>jd g h d3 (z.trans qP.symm),λz=>by rw [z,qP]⟩
  have i2:aW w d=(b,c)↔d=(a,b):=⟨λz=>jd g h hd (z.trans e1.symm),λz=>by rw [z,e1]⟩
  have i3:aW w d=(c,a)↔d=(b,c):=⟨λz=>jd g h d2 (z.trans e2.symm),λz=>by rw [z,e2]⟩
  rw [Ne,Ne,Ne,Ne,Ne,Ne,i1,i2,i3];exact ⟨λh=>⟨h.2.2,h.1,h.2.1⟩,λh=>⟨h.2.1,h.2.2,h.1⟩⟩
 refine ⟨nd,by simp,λd h=>h.1,λd h=>?_,λd h=>tri d h.1,λp hp=>?_,λp q h n1 n2=>?_⟩
 ·exact ⟨λz=>⟨eo g h,(step d h).mp z.2⟩,λz=>⟨h,(step d h).mpr z.2⟩⟩
 ·simp only [bQ,vP,or_false] at hp
  rcases hp with rfl|rfl|rfl
  ·rw [s1]
   exact ⟨g.sym _ _ hd,⟨g.sym _ _ hd,λz=>Cw (congrArg Prod.snd z),λz=>Hh (congrArg Prod.snd z).symm,λz=>Hg (congrArg Prod.fst z)⟩,λz=>z.2.1 rfl⟩
  ·rw [s2]
   exact ⟨g.sym _ _ d2,⟨g.sym _ _ d2,λz=>Hh (congrArg Prod.fst z),λz=>Hg (congrArg Prod.snd z),λz=>Cw (congrArg Prod.snd z).symm⟩,λz=>z.2.2.1 rfl⟩
  ·rw [s3]
   exact ⟨g.sym _ _ d3,⟨g.sym _ _ d3,λz=>Hg (congrArg Prod.snd z).symm,λz=>Cw (congrArg Prod.fst z),λz=>Hh (congrArg Prod.snd z)⟩,λz=>z.2.2.2 rfl⟩
 ·have key:∀p q,aF w (p,q)→¬(q∈ [a,b,c]∧p=ae [a,b,c] q)→(q,p)≠(a,b)∧(q,p)≠(b,c)∧(q,p)≠(c,a):=λp q h n=>by
   refine ⟨λz=>n ?_,λz=>n ?_,λz=>n ?_⟩
   ·have z1:q=a:=congrArg Prod.fst z
    have z2:p=b:=congrArg Prod.snd z;rw [z1,z2,s1];exact ⟨by simp,rfl⟩
   ·have z1:q=b:=congrArg Prod.fst z
    have z2:p=c:=congrArg Prod.snd z;rw [z1,z2,s2];exact ⟨by simp,rfl⟩
   ·have z1:q=c:=congrArg Prod.fst z
    have z2:p=a:=congrArg Prod.snd z;rw [z1,z2,s3];exact ⟨by simp,rfl⟩
  exact ⟨λ_=>⟨g.sym _ _ h,key p q h n2⟩,λ_=>⟨h,key q p (g.sym _ _ h) n1⟩⟩
def bE(R:List Nat)(i:Nat):Nat:=if i=0 then R.length-1 else i-1
def withinL(w:W)(R:List Nat)(i:Nat):List Nat:=
 ((row w (R.getD i 0)).drop ((row w (R.getD i 0)).idxOf (R.getD ((i+1)%R.length) 0)+1)++(row w (R.getD i 0)).take ((row w (R.getD i 0)).idxOf (R.getD ((i+1)%R.length) 0))).take
   (((row w (R.getD i 0)).drop ((row w (R.getD i 0)).idxOf (R.getD ((i+1)%R.length) 0)+1)++(row w (R.getD i 0)).take ((row w (R.getD i 0)).idxOf (R.getD ((i+1)%R.length) 0))).idxOf (R.getD (bE R i) 0))
theorem gT{R:List Nat}{i:Nat}(nd:R.Nodup)(h:i<R.length):ae R (R.getD i 0)=R.getD ((i+1)%R.length) 0:=by
 by_cases c:i+1<R.length
 ·rw [aD nd c,kY c]
 ·rw [aX nd (by omega),show i+1=R.length by omega,nE]
theorem f7{R:List Nat}{i:Nat}(nd:R.Nodup)(h:i<R.length):ae R (R.getD (bE R i) 0)=R.getD i 0:=by
 unfold bE
 split
 ·next e=>subst e;rw [aX nd (by omega)]
 ·next e=>rw [aD nd (by omega),show i-1+1=i by omega]
theorem fb{R:List Nat}{i:Nat}(h:i<R.length):bE R i<R.length:=by unfold bE;split<;>omega
theorem jK{l:List Nat}{a:Nat}(h:a∈l):bM l a=a::(l.drop (l.idxOf a+1)++l.take (l.idxOf a)):=by
 unfold bM;have hl:=fH.mpr h;rw [vF hl,gE hl,List.cons_append]
theorem take_range{T:List Nat}{a n:Nat}(h:n≤T.length):T.take n=(List.range n).map λk=>(a::T).getD (k+1) 0:=by
 refine List.ext_getElem (by simp [Nat.min_eq_left h]) λk h1 h2=>?_
 rw [vO,List.getElem_map,List.getElem_range];rw [aJ,gG] at h2;show _=(a::T).getD (k+1) 0;rw [j4,aK,bq (by omega)]
 rfl
section
variable {w:W} {R:List Nat} {A:Nat×Nat→Prop}
theorem iE(g:Good w)(D:Disc w R A){i:Nat}(hi:i<R.length):
  ∃m y,Whole w R (R.getD i 0) m (row w (R.getD i 0)).length y∧y 0=R.getD ((i+1)%R.length) 0∧y m=R.getD (bE R i) 0∧
   withinL w R i=(List.range (m-1)).map λk=>y (k+1):=by
 have hv:=ay hi;have hb:=ay (fb hi);have eb:=f7 D.nd hi;have F:=lP g D hv hb eb;have am:ae R (R.getD i 0)∈row w (R.getD i 0):=g.sym _ _ (D.ring _ hv).1;have pos:=F.at_.fan.pos
 have ym:(bM (row w (R.getD i 0)) (ae R (R.getD i 0))).getD ((bM (row w (R.getD i 0)) (ae R (R.getD i 0))).idxOf (R.getD (bE R i) 0)) 0=R.getD (bE R i) 0:=by
  have bm:R.getD (bE R i) 0∈row w (R.getD i 0):=by
   have:=(D.ring _ hb).1
   rw [eb] at this;exact this
  have bl:=fH.mpr ((hZ (row w (R.getD i 0)) (ae R (R.getD i 0))).mem_iff.mpr bm);rw [aK,bq bl,gE bl];rfl
 refine ⟨_,_,F,by rw [←gT D.nd hi];exact tN am,ym,?_⟩
 unfold withinL;rw [←gT D.nd hi];have b4:=F.lt;have hlen:=lK (row w (R.getD i 0)) (ae R (R.getD i 0));rw [jK am] at pos b4 hlen ⊢;generalize hT:(row w (R.getD i 0)).drop ((row w (R.getD i 0)).idxOf (ae R (R.getD i 0))+1)++(row w (R.getD i 0)).take ((row w (R.getD i 0)).idxOf (ae R (R.getD i 0)))=T at*
 have ne:(ae R (R.getD i 0)==R.getD (bE R i) 0)=false:=by
  rw [vQ] at pos;cases c:(ae R (R.getD i 0)==R.getD (bE R i) 0)
  ·rfl
  ·rw [c] at pos;simp at pos
 rw [vQ,ne] at b4 ⊢;simp only [cond_false] at b4 ⊢;rw [dY] at hlen;rw [Nat.add_sub_cancel];exact take_range (by omega)
theorem cK{m:Nat}{y:Nat→Nat}{z:Nat}:z∈(List.range (m-1)).map (λk=>y (k+1))↔∃k,0<k∧k<m∧y k=z:=by
 rw [cT]
 constructor
 ·rintro ⟨k,hk,rfl⟩
  rw [cm] at hk;exact ⟨k+1,by omega,by omega,rfl⟩
 ·rintro ⟨k,h1,h2,rfl⟩
  exact ⟨k-1,cm.mpr (by omega),by rw [show k-1+1=k by omega]⟩
theorem cY(g:Good w)(D:Disc w R A){i:Nat}(hi:i<R.length){z:Nat}:z∈withinL w R i↔A (R.getD i 0,z)∧z≠R.getD (bE R i) 0:=by
 obtain ⟨m,y,F,e0,em,ew⟩:=iE g D hi;rw [ew,cK];have hl:=F.lt
 constructor
 ·rintro ⟨k,h1,h2,rfl⟩
  have:=(F.at_.yi g D (k-1) (by omega)).2
  rw [show k-1+1=k by omega] at this
  refine ⟨this,λe=>?_⟩
  have:=F.inj k m (by omega) (by omega) (by rw [em];exact e)
  omega
 ·rintro ⟨a,ne⟩
  obtain ⟨k,h1,h2,e⟩:=F.between g D a;refine ⟨k,h1,?_,e⟩
  by_cases c:k=m
  ·subst c;exact absurd (e.symm.trans em) ne
  ·omega
theorem oX(g:Good w)(D:Disc w R A){i:Nat}(hi:i<R.length):R.getD ((i+1)%R.length) 0∉withinL w R i:=by
 rw [cY g D hi];rintro ⟨a,_⟩;rw [←gT D.nd hi] at a;exact (D.ring _ (ay hi)).2.2 a
theorem iG(g:Good w)(D:Disc w R A){i j:Nat}(hi:i<R.length)(hj:j<R.length)(h:R.getD j 0∈withinL w R i):R.getD i 0∈withinL w R j:=by
 have h':=(cY g D hi).mp h;have n1:=oX g D hi;have hd:=D.dart _ h'.1;have c1:¬(R.getD i 0∈R∧R.getD j 0=ae R (R.getD i 0)):=λz=>n1 (by rw [←gT D.nd hi,←z.2];exact h)
 have c2:¬(R.getD j 0∈R∧R.getD i 0=ae R (R.getD j 0)):=λz=>h'.2 (cR D.nd z.1 (ay (fb hi)) (by rw [←z.2,f7 D.nd hi]))
 refine (cY g D hj).mpr ⟨(D.sym _ _ hd c1 c2).mp h'.1,λe=>c1 ⟨ay hi,?_⟩⟩;rw [e,f7 D.nd hj]
open Classical in
noncomputable def cnt(w:W)(A:Nat×Nat→Prop):Nat:=((fj w).filter λd=>decide (A d)).length
open Classical in
theorem v9{A A':Nat×Nat→Prop}(sub:∀d,A' d→A d){d:Nat×Nat}(hd:aF w d)(a:A d)(n:¬A' d):cnt w A'<cnt w A:=by
 unfold cnt
 have key:∀l:List (Nat×Nat),d∈l→(l.filter λd=>decide (A' d)).length<(l.filter λd=>decide (A d)).length:=λl=>by
  have le:∀l:List (Nat×Nat),(l.filter λd=>decide (A' d)).length≤(l.filter λd=>decide (A d)).length:=λl=>by
   induction l with
   |nil=>simp
   |cons x l ih=>
    rw [qK,qK]
    by_cases c:A' x
    ·rw [if_pos (decide_eq_true c),if_pos (decide_eq_true (sub x c))];simp;exact ih
    ·rw [if_neg (by simp [c])]
     split
     ·simp;omega
     ·exact ih
  induction l with
  |nil=>intro h;cases h
  |cons x l ih=>
   intro h;rw [qK,qK]
   by_cases e:x=d
   ·subst e
    rw [if_neg (by simp [n]),if_pos (decide_eq_true a)]
    have:=le l
    simp;omega
   ·have h:d∈l:=by
     rcases bQ.mp h with z|z
     ·exact absurd z.symm e
     ·exact z
    have:=ih h
    by_cases c:A' x
    ·rw [if_pos (decide_eq_true c),if_pos (decide_eq_true (sub x c))];simp;exact this
    ·rw [if_neg (by simp [c])]
     split
     ·simp;omega
     ·exact this
 exact key _ (hE.mpr hd)
end
section
variable {w:W} {R:List Nat} {A:Nat×Nat→Prop}
theorem xg{R:List Nat}{i j:Nat}(uz:i<j)(hj:j<R.length):
  R=R.take i++R.getD i 0::((R.drop (i+1)).take (j-i-1)++R.getD j 0::R.drop (j+1)):=by
 have gi:R.getD i 0=R[i]'(by omega):=by rw [aK,bq (by omega)];rfl
 have gj:R.getD j 0=R[j]:=by rw [aK,bq hj];rfl
 have e1:R.getD j 0::R.drop (j+1)=(R.drop (i+1)).drop (j-i-1):=by
  rw [List.drop_drop,show i+1+(j-i-1)=j by omega,vF hj,gj]
 rw [e1,iH,gi,←vF (by omega),iH]
theorem KI{R:List Nat}{i j:Nat}(uz:i<j)(hj:j<R.length):(R.take (j+1)).drop i=R.getD i 0::((R.drop (i+1)).take (j-i-1)++ [R.getD j 0]):=by
 have gi:R.getD i 0=R[i]'(by omega):=by rw [aK,bq (by omega)];rfl
 have gj:R.getD j 0=R[j]:=by rw [aK,bq hj];rfl
 rw [List.drop_take,vF (by omega:i<R.length),←gi,show j+1-i=(j-i-1)+1+1 by omega,List.take_succ_cons]
 congr 1
 rw [List.take_succ,vL,show i+1+(j-i-1)=j by omega,bq hj,gj]
 rfl
theorem KJ{R:List Nat}{i j:Nat}(uz:i<j)(hj:j<R.length):R.drop j++R.take (i+1)=R.getD j 0::((R.drop (j+1)++R.take i)++ [R.getD i 0]):=by
 have gi:R.getD i 0=R[i]'(by omega):=by rw [aK,bq (by omega)];rfl
 have gj:R.getD j 0=R[j]:=by rw [aK,bq hj];rfl
 rw [vF hj,List.take_succ,bq (by omega:i<R.length),←gi,←gj]
 simp
theorem Az{m:Nat}{y:Nat→Nat}:((List.range m).map λk=>y (k+1)).reverse=(List.range m).map λi=>y (m-i):=by
 refine List.ext_getElem (by simp) λk h1 h2=>?_
 have hk:k<m:=by simpa using h2
 rw [List.getElem_reverse];simp only [aJ,gG,List.getElem_map,List.getElem_range,pk]
 congr 1
 omega
end
theorem oN{w:W}{i x:Nat}{r:List Nat}(h:i<w.length):row (w.set i r) x=if i=x then r else row w x:=by
 unfold row;rw [aK,qJ,aK]
 by_cases e:i=x
 ·subst e;rw [if_pos rfl,if_pos h,if_pos rfl];rfl
 ·rw [if_neg e,if_neg e]
theorem tO{w:W}{x:Nat}{r:List Nat}:row (w++ [r]) x=if x=w.length then r else row w x:=by
 unfold row;rw [aK,aK]
 by_cases c:x<w.length
 ·rw [dH c,if_neg (by omega)]
 ·by_cases e:x=w.length
  ·subst e;rw [if_pos rfl];simp
  ·rw [if_neg e,j3 (by simp;omega),j3 (by omega)]
structure vS (w w':W) (R:List Nat) (f k:Nat):Prop where
 l:w'.length=w.length+1
 rv:row w' w.length=(R.take (f+1)).reverse
 r0:row w' (R.getD 0 0)=w.length::row w (R.getD 0 0)
 rk:∀i,1≤i→i≤k→row w' (R.getD i 0)=row w (R.getD i 0)++ [w.length]
 ro:∀x,x≠w.length→(∀i,i≤k→x≠R.getD i 0)→row w' x=row w x
theorem vS.start{w:W}{R:List Nat}{f:Nat}(h:R.getD 0 0<w.length):vS w ((w++ [(R.take (f+1)).reverse]).set (R.getD 0 0) (w.length::row w (R.getD 0 0))) R f 0:=by
 have hl:(w++ [(R.take (f+1)).reverse]).length=w.length+1:=by simp
 have rp:∀x,row ((w++ [(R.take (f+1)).reverse]).set (R.getD 0 0) (w.length::row w (R.getD 0 0))) x=_:=λx=>oN (x:=x) (by omega)
 refine ⟨by rw [j6];exact hl,?_,?_,λi h1 h2=>by omega,λx h1 h2=>?_⟩
 ·rw [rp,if_neg (by omega),tO,if_pos rfl]
 ·rw [rp,if_pos rfl]
 ·rw [rp,if_neg (λz=>h2 0 (bh _) z.symm),tO,if_neg h1]
theorem vS.step{w w':W}{R:List Nat}{f k:Nat}(M:vS w w' R f k)(nd:R.Nodup)(hf:f<R.length)(hk:k+1≤f)(h:R.getD (k+1) 0<w.length):vS w (w'.set (R.getD (k+1) 0) (row w' (R.getD (k+1) 0)++ [w.length])) R f (k+1):=by
 have ne:∀i,i≤k→R.getD (k+1) 0≠R.getD i 0:=λi hi e=>by
  have:=getD_inj nd (by omega) (by omega) e;omega
 have rp:∀x,row (w'.set (R.getD (k+1) 0) (row w' (R.getD (k+1) 0)++ [w.length])) x=_:=λx=>oN (x:=x) (by rw [M.l];omega)
 refine ⟨by rw [j6];exact M.l,?_,?_,λi h1 h2=>?_,λx h1 h2=>?_⟩
 ·rw [rp,if_neg (by omega)];exact M.rv
 ·rw [rp,if_neg (ne 0 (by omega))];exact M.r0
 ·by_cases c:i=k+1
  ·subst c
   rw [rp,if_pos rfl,M.ro _ (by omega) (λi hi=>ne i hi)]
  ·rw [rp,if_neg (ne i (by omega))];exact M.rk i h1 (by omega)
 ·rw [rp,if_neg (λz=>h2 (k+1) (bh _) z.symm)]
  exact M.ro x h1 λi hi=>h2 i (by omega)
theorem vS.fin{w w':W}{R:List Nat}{f:Nat}(M:vS w w' R f f)(f1:1≤f)(hf:f<R.length):Step w w' R f:=⟨M.l,f1,hf,M.rv,M.r0,M.rk,M.ro⟩
theorem bR.LU{w:W}{R:List Nat}(G:bR w R){x:Nat}(h:x∈R):x<w.length:=bu (G.hd x h).1
theorem bR.qc{w:W}{R:List Nat}(G:bR w R):R.length≤w.length:=by
 have:=aU G.nd (m:=List.range w.length) λx hx=>cm.mpr (G.LU hx)
 rw [gG] at this;exact this
end Wb
set_option maxHeartbeats 4000000
namespace PySem
namespace F
theorem Ai:typeLookup (.type "list_reverseiterator") "__len__"=pure none:=by rw [typeLookup_type,builtinLookup_eq_fast];kernel_rfl
theorem Ce:typeLookup (.type "list_reverseiterator") "__length_hint__"=pure (some (.builtin "list_reverseiterator.__length_hint__")):=by rw [typeLookup_type,builtinLookup_eq_fast];kernel_rfl
end F
section
variable {prog:Program} {w:World} {A:Around} {s:Shared} {R:Result→Shared→Prop}
variable {I:Addr} {fp wr:List Addr} {G:Array GenState→Array GenState→Prop} {n:Nat} {P:Nat→Value→Prop} {St:Nat→Shared→Prop}
theorem ya(W:WalksS prog w A.in1 I fp wr G n P St)(hT:∀i s,St i s→s.TypeIs (.ref I) "list_reverseiterator")(S:Addr)(res:Value)(c₀:Nat)(i7:St 0 s)(zH:S∉fp)(hI:I∈fp)
  (hS:s.heap.get? S=some {cls:= .type "list",data:= .seq #[] c₀})
  (hR:∀s' bO c',Moved (S::wr) G s s'→s'.heap.get? S=some {cls:= .type "list",dict:=none,data:= .seq bO c',slots:= #[]}→ItemsOf P bO n→R (.ok (.ret res)) s') (hn:n≤sizeLine):
  wpAny (model prog w) A.in1 (Builtin.List.listExtendWith (.ref S) (.ref I) res)
   (λfin s'=>match fin with| .done f=>R (.ok f) s'| .again c'=>c'.quiet=true∧codeAny (model prog w) A c' R s') (λe s'=>R (.error e) s') s:=by
 have GH:S≠I:=λe=>zH (e▸hI);unfold Builtin.List.listExtendWith;refine wpAny_bind (wpAny_typeOf (hT 0 _ i7) ?_);have h1:Builtin.List.listSameRef (.ref S) (.ref I)=false:=by simp [Builtin.List.listSameRef,GH]
 have h2:(Value.type "list_reverseiterator"==Value.type "list")=false:=by decide
 have h3:(Value.type "list_reverseiterator"==Value.type "tuple")=false:=by decide
 simp only [h1,h2,h3,Bool.or_false,vK,if_false];refine wpAny_bind (W.self 0 _ _ _ i7 ?_);refine wpAny_bind (wpAny_holding ?_);unfold Builtin.List.listLengthHint;refine wpAny_bind (wpAny_specialOf (hT 0 _ i7) F.Ai ?_);show wpAny _ A.in1 (specialOf (Value.ref I) (Str.ofString "__length_hint__")>>=_) _ _ _;refine wpAny_bind (wpAny_specialOf (hT 0 _ i7) F.Ce ?_);generalize Cc:("list_reverseiterator.__length_hint__":String)=GP
 wp_delta
 rw [show splitId GP=some ("list_reverseiterator","__length_hint__") from by subst Cc;decide+kernel]
 subst Cc;refine wpAny_bind (wpAny_isInstance (b:=true) (hT 0 _ i7) (by rw [isSubtype_type];kernel_rfl) ?_)
 refine wpAny_pure ?_;rw [if_neg (by decide)]
 exact wpAny_pure ⟨plainId_quiet F.plain_extend_loop _,codeAny_extend_loopS W hn _ zH _ n 0 _ _ _ rfl (b9 _) i7 hS (ItemsOf.nil P) hR⟩
theorem sW(W:WalksS prog w A.in1 I fp wr G n P St)(hT:∀i s,St i s→s.TypeIs (.ref I) "list_reverseiterator")(S:Addr)(i7:St 0 s)(zH:S∉fp)(hI:I∈fp)
  (hS:s.heap.get? S=some {cls:= .type "list",data:= .seq #[]})
  (hR:∀s' bO c',Moved (S::wr) G s s'→s'.heap.get? S=some {cls:= .type "list",dict:=none,data:= .seq bO c',slots:= #[]}→ItemsOf P bO n→R (.ok (.ret .none)) s') (hn:n≤sizeLine):
  wpAny (model prog w) A.in1 (Builtin.«list.__init__» ⟨[.ref S, .ref I],[]⟩)
   (λfin s'=>match fin with| .done f=>R (.ok f) s'| .again c'=>c'.quiet=true∧codeAny (model prog w) A c' R s') (λe s'=>R (.error e) s') s:=by
 show wpAny _ A.in1 (do let old ←Builtin.List.listItems (.ref S);Builtin.List.listUpdate (.ref S) (λ_=> #[]);letGo old.toList.reverse;Builtin.List.listExtendWith (.ref S) (.ref I) .none) _ _ s
 refine wpAny_bind ?_;unfold Builtin.List.listItems;refine wpAny_bind (wpAny_seqItems hS rfl (wpAny_pure ?_));show wpAny _ A.in1 (updateSeq S (λ_=> #[])>>=λ_=>letGo (#[]:Array Value).toList.reverse>>=λ_=>Builtin.List.listExtendWith (.ref S) (.ref I) .none) _ _ s;refine wpAny_bind (wpAny_updateSeq hS rfl ?_);have wz:=Heap.get?_update_self (Obj.mapSeq (λ_=>(#[]:Array Value))) hS rfl
 have CB:∀b o,b≠S→s.heap.get? b=some o→(s.heap.update S (Obj.mapSeq (λ_=>(#[]:Array Value)))).get? b=some o:=
  λb o hb e=>(Heap.get?_update_other _ _ (Ne.symm hb)).trans e
 refine wpAny_bind (wpAny_letGo ?_);refine ya W hT S .none _ (W.frame 0 s _ s.toks i7 (bh _) λb hb o e=>CB b o (λh=>zH (h▸hb)) e) zH hI wz (λs' bO c' hm wy n9=>?_) hn;exact hR s' bO c' (Moved.trans W.gtrans ((Moved.refl W.grefl).then_heap (bh _) λb o hb e=>CB b o (λh=>hb (h▸bP)) e) hm) wy n9
theorem rX{E:Value→Shared→Prop}{Q:Value→Shared→Prop}(W:WalksS prog w A.in1.in1 I fp wr G n P St)(hT:∀i s,St i s→s.TypeIs (.ref I) "list_reverseiterator")(i7:St 0 s)(GK:∀b∈fp,b<s.heap.objs.size)(hI:I∈fp)
  (hQ:∀s' bO c',Moved (s.heap.objs.size::wr) G {s with heap:=s.heap.push {cls:= .type "list",data:= .seq #[]}} s'→
   s'.heap.get? s.heap.objs.size=some {cls:= .type "list",dict:=none,data:= .seq bO c',slots:= #[]}→ItemsOf P bO n→Q (.ref s.heap.objs.size) s') (hn:n≤sizeLine):
  wpAny (model prog w) A (call (.type "list") [.ref I]) Q E s:=by
 have zH:s.heap.objs.size∉fp:=λhm=>fB _ (GK _ hm)
 refine callType_codes (Q₁:=λobj s₁=>obj= .ref s.heap.objs.size∧s₁={s with heap:=s.heap.push {cls:= .type "list",data:= .seq #[]}}) F.called_list (F.typeCall_list_1 _) F.entry_list_init
  (code_list_new _ ⟨rfl,rfl⟩) λobj s₁ OW=>?_
 obtain ⟨rfl,rfl⟩:=OW;have hS:(s.heap.push {cls:= .type "list",data:= .seq #[]}).get? s.heap.objs.size=some {cls:= .type "list",data:= .seq #[]}:=Heap.get?_push_size _ rfl;refine ⟨⟨_,hS,rfl⟩,F.args_list_init_2 _ _,sW W hT _ (W.frame 0 s _ s.toks i7 (bh _) λb _ o e=>Heap.get?_push_of_some _ e) zH hI hS (λs' bO c' hm wy n9=>?_) hn⟩;exact ⟨rfl,hQ s' bO c' hm wy n9⟩
end
end PySem
namespace L2
open PySem PySem.Spec PyProof.Rows
section
variable {X:Cx} {Z:DC} {a b c e:Expr} {ta te:aS} {t:gW} {pos:Pos}
def C1(K:PySem.W.Frag)(ta:TA):TE:=λσ H Q=>ta σ H λvs H1=>∃l xs,vs= [.ref l]∧cc K H1 l xs∧∀q,H1 q=none→Q (.ref q) (upd H1 q (.lst xs.reverse))
theorem yE{ta:TA}{p p2 mm:Pos}(hc:X.calm=true)(K1:Gl X "list")(Er:X.mg "list"=none)(K2:Gl X "reversed")(zQ:X.mg "reversed"=none)(ha:PA X [a] ta)
  (hs:starEach [.Call (.Name "reversed" p2) [a] [] mm] X.env=(false,eval (.Call (.Name "reversed" p2) [a] [] mm) X.env)::starEach [] X.env:=by rfl) (fD:(backTo pos (starEach [] X.env)).any (·.1)=false:=by rfl)
  (jA:starEach [a] X.env=(false,eval a X.env)::starEach [] X.env:=by rfl) (Ew:(backTo mm (starEach [] X.env)).any (·.1)=false:=by rfl):
  PE X (.Call (.Name "list" p) [.Call (.Name "reversed" p2) [a] [] mm] [] pos) (C1 X.K ta):=by
 intro pins s σ H Q I h;refine wpAny_Call_Name_kw (gI I K1 Er kv ?_);refine PyProof.Rows.callWith_type1 ?_ hs fD;rw [hs];show wpAny _ _ (spliced ((false,eval _ X.env)::backTo pos (starEach [] X.env))) _ _ s;refine Calls.spliced_cons ?_;refine wpAny_Call_Name_kw (gI I K2 zQ vY ?_);refine PyProof.Rows.callWith_type1 (thn (ha mm pins s σ H _ I h) λus s1 ⟨vs,H1,I1,r1,q1⟩=>?_) jA Ew;obtain ⟨l,xs,e,hl,q⟩:=q1;subst e;obtain ⟨u,rfl,ru⟩:=r1.one;cases ru;obtain ⟨its,rv,p,hz⟩:=I1.list hl;have hlen:=rv.length;refine call_reversed_list p.isList ?_;refine Calls.spliced_nil ?_;have b4:l<s1.heap.objs.size:=by obtain ⟨o,ho,_⟩:=p.isList;exact Heap.lt_size ho
 have zS:l≠s1.heap.objs.size:=bZ b4;have W:=(Walks.listRev (prog:=X.prog) (w:=X.w) (A:=X.A.in1.in1) (I.ok.hd hc) s1.heap.objs.size l zS its.toArray).toS;have hit:(s1.heap.push (revObj l ((its.toArray.size:Int)-1))).IsRevIter s1.heap.objs.size l ((its.toArray.size:Int)-1-((0:Nat):Int)):=⟨_,Heap.get?_push_size _ rfl,rfl,by simp [revObj]⟩
 have T6:(s1.heap.push (revObj l ((its.toArray.size:Int)-1))).IsList l its.toArray:=p.isList.at λo e=>Heap.get?_push_of_some _ e;have qS:(s1.heap.push (revObj l ((its.toArray.size:Int)-1))).objs.size=s1.heap.objs.size+1:=by simp [Heap.push]
 refine rX W (λi s st=>st.2.1.typeIs) ⟨b9 _,hit,T6⟩ (λb hb=>?_) (by simp) (λs' bO c' hm wy n9=>?_) (by simpa [←hlen] using hz)
 ·rw [show ({s1 with heap:=s1.heap.push (revObj l ((its.toArray.size:Int)-1))}:Shared).heap.objs.size=s1.heap.objs.size+1 from qS]
  have hb:b=s1.heap.objs.size∨b=l:=by simpa using hb
  rcases hb with rfl|rfl
  ·exact Nat.lt_succ_self _
  ·exact Nat.lt_succ_of_lt b4
 ·rw [Moved.eq_with hm]
  have kk:∀b o,s1.heap.get? b=some o→s'.heap.get? b=some o:=λb o e=>by
   have hb:=Heap.lt_size e;refine hm.heap b o (λog=>?_) (Heap.get?_push_of_some _ (Heap.get?_push_of_some _ e));have og:b=(s1.heap.push (revObj l ((its.toArray.size:Int)-1))).objs.size∨b=s1.heap.objs.size:=by simpa using og
   rw [qS] at og
   rcases og with rfl|rfl
   ·exact absurd hb (Nat.not_lt.mpr (pD _))
   ·exact absurd hb (fB _)
  rw [show ({s1 with heap:=s1.heap.push (revObj l ((its.toArray.size:Int)-1))}:Shared).heap.objs.size=s1.heap.objs.size+1 from qS] at wy ⊢
  refine ⟨.ref (s1.heap.objs.size+1),_,I1.laid kk (pD _) (o:= .lst xs.reverse) ⟨by rw [pk];exact hz,bO.toList,c',?_,by simpa using wy⟩,rfl,q _ (I1.hok.fresh (pD _))⟩
  refine Vals.of_get (by simp [n9.1,hlen]) λk x w hx hw=>?_
  have hk:k<xs.length:=by
   have:=(fC.mp hx).1
   simpa using this
  rw [List.getElem?_reverse hk] at hx;obtain ⟨u,hu,ru⟩:=rv.get hx
  have:its.toArray[its.toArray.size-1-k]? =some w:=n9.2 k w (by rw [←pj];exact hw)
  have e2:its.toArray.size-1-k=xs.length-1-k:=by simp [hlen]
  rw [e2] at this
  have:u=w:=by
   have h1:its[xs.length-1-k]? =some w:=by simpa using this
   rw [hu] at h1;exact Option.some.inj h1
  rw [←this];exact ru
def BX(t:gW):aS:=λρ P=>t ρ λds=>match ds with
 | [.lst l]=>P (.lst l.reverse)
 |_=>False
theorem xS{p p2 mm:Pos}(hc:X.calm=true)(K1:Gl X "list")(Er:X.mg "list"=none)(K2:Gl X "reversed")(zQ:X.mg "reversed"=none)(ha:DA Z X [a] t)
  (hs:starEach [.Call (.Name "reversed" p2) [a] [] mm] X.env=(false,eval (.Call (.Name "reversed" p2) [a] [] mm) X.env)::starEach [] X.env:=by rfl) (fD:(backTo pos (starEach [] X.env)).any (·.1)=false:=by rfl)
  (jA:starEach [a] X.env=(false,eval a X.env)::starEach [] X.env:=by rfl) (Ew:(backTo mm (starEach [] X.env)).any (·.1)=false:=by rfl):
  DE Z X (.Call (.Name "list" p) [.Call (.Name "reversed" p2) [a] [] mm] [] pos) (BX t):=by
 refine (yE hc K1 Er K2 zQ ha hs fD jA Ew).imp ?_;rintro σ H Q ⟨G,ρ,P,s,en,h,q⟩;refine ⟨G,ρ,_,s,en,h,λds hd vs G1 H1 x1 dv=>?_⟩;cases dv with
 |nil=>exact hd.elim
 |cons a as=>
  cases as with
  |cons _ _=>cases a<;>exact hd.elim
  |nil=>
   cases a<;>first|exact hd.elim|skip
   rename_i p xs ds ha e
   exact ⟨_,xs,rfl,cc.of (x1.sub _ _ ha),λp hn=>q _ hd _ _ _ (x1.trans (.new x1.sub hn)) (.lst aw (e.rev.mono (aQ (x1.sub.free hn) _)))⟩
end
section
variable {Z:DC} {X:Cx} {md:List Nat} {rn:Nat} {a b e k:Expr} {pos:Pos} {ta tb te tk:aS} {t:kn}
def N5(ta tb:aS):kn:=λρ P=>ta ρ λd1=>∃l1,d1= .lst l1∧tb ρ λd2=>∃l2,d2= .lst l2∧l1.length+l2.length≤sizeLine∧P (l1++l2)
theorem rj(ha:DE Z X a ta)(hb:DE Z X b tb):DF Z X 1 (.BinOp a .Add b pos) (N5 ta tb):=by
 refine (As wV ha hb).imp ?_;rintro σ H Q ⟨G,ρ,P,s,e,h,q⟩;refine ⟨G,ρ,_,s,e,h,?_⟩;rintro _ ⟨l1,rfl,h⟩ v1 G1 H1 x1 zw;refine ⟨G1,ρ,_,x1.sub,e.mono x1.gg,h,?_⟩;rintro _ ⟨l2,rfl,hz,hp⟩ v2 G2 H2 x2 wo;obtain ⟨p1,Gd,rfl,h1,e1⟩:=zw.hJ;obtain ⟨p2,Rw,rfl,h2,e2⟩:=wo.hJ;have Kj:=e1.mono x2.gg;have x:=x1.trans x2;refine ⟨_,_,_,_,rfl,rfl,x2.hh _ _ (x1.sub _ _ h1),x2.sub _ _ h2,by rw [e1.length,e2.length];exact hz,λp iL=>?_⟩
 obtain ⟨o1,o2,o3⟩:=oF x iL (Kj.append e2);exact q _ hp _ _ _ _ (x.side iL) o1 o2 o3
variable {tg iter elt:Expr} {ifs:List Expr} {scope:Scope} {NC:List Str} {src:List (Option Nat)} {wi:fT} {g:cU} {tt:cN}
theorem Kf(hc:X.calm=true)(c:bU X scope)(dF:cF scope X.N src NC)(hi:DI Z X tg iter wi)
  (hg:∀ex s H,DG Z (b0 X scope NC ex s H) tg g) (ht:∀ex s H,uk Z (b0 X scope NC ex s H) ifs tt) (he:∀ex s H,DE Z (b0 X scope NC ex s H) elt te)
  (hs:∀x,foldedSetIterable iter X.env x=pure x:=by intro _;rfl):DF Z X 1 (.ListComp elt [⟨tg,iter,ifs,0⟩] scope pos) (Km wi g tt te src):=(Fc hc c dF hi hg ht he hs).imp yt
variable {B:Bs} {ρ:DN} {σ:St} {H G:Hp} {fp:Nat→List Addr}
theorem SIx.Tj{P:List D→Prop}{Q:VK}(S:SIx Z B md ρ σ H G fp)(h:t ρ P)
  (hq:∀ds,P ds→ds.all eO=true∧∀v G' H',SIx Z B md ρ σ H' G' fp→Ext G H G' H'→Dv Z G' v (.lst ds)→Q v H'):sV Z 1 t σ H Q:=by
 refine ⟨H,ρ,P, .refl _,S.D8,h,?_⟩;intro ds hd v f G' H' x o nd nw;obtain ⟨T3,k⟩:=hq ds hd;obtain ⟨a,xs,nT,n5,rfl,e1,ha,TY,ol⟩:=o.lst;cases e1;obtain ⟨dv,rfl⟩:=ol.flat;have hb:H a=none:=(nw a (by rw [TY];simp)).1
 have hg:G a=none:=S.ex.sub.free hb
 have x2:Ext G H (upd G a (.lst xs)) H':=by
  refine ⟨aQ hg _,λb o e=>?_,x.hh,λb h1 h2=>?_⟩
  ·by_cases z:b=a
   ·subst z
    rw [aw] at e;rw [←e];exact ha
   ·rw [aC z] at e
    exact x.hh _ _ (S.ex.sub _ _ e)
  ·rw [aC (λz=>h1 (by rw [z];exact hb))];exact h2
 exact k _ _ _ (S.grow x2) x2 (.lst aw (dv.flat T3))
def DQ(i:Nat)(tk:aS)(t:kn):dD:=λE ρ=>t ρ λd=>d.all eO=true∧∃ds,ρ[i]? =some (some (.lst ds))∧tk ρ λkk=>∃k j,kk= .int k∧mU ds.length k=some j∧E.nx (ρ.set i (some (.lst (ds.set j (.lst d)))))
theorem mO(i:Nat){x:Str}{px ps:Pos}(hk:DE Z X k tk)(he:DF Z X 1 e t)(hm:md.getD i 0=1:=by rfl)(hi:X.N[i]? =some x:=by rfl)(hv:qM X.env.scope x:=by first|exact Or.inl rfl|exact Or.inr (Or.inl rfl) |exact Or.inr (Or.inr rfl))(hd:(x==("__debug__":Str))=false:=by decide)(fm:(x==("__classdict__":Str))=false:=by decide)
  (ha:∀v,assign (.Subscript (.Name x px) k ps) X.env v=(do
   let ov ←holding [v] (eval (.Name x px) X.env)
   let iv ←holding [v,ov] (eval k X.env)
   standAt ps
   holding [v,ov,iv] (setItem ov iv v)
   release [v,ov,iv] []):=by intro _;rfl)
  (hs:swapsWithSole [.Subscript (.Name x px) k ps] e pos.line X.env=pure false:=by rfl) (hw:swappedStores [.Subscript (.Name x px) k ps] e X.env=pure none:=by rfl)
  (h1:(assignEach [.Subscript (.Name x px) k ps] X.env).map (·.2)= [assign (.Subscript (.Name x px) k ps) X.env]:=by rfl):DSt Z X md rn (.Assign [.Subscript (.Name x px) k ps] e pos) (DQ i tk t):=by
 refine (wY he (By (pv i hi hv hd fm) hk set_list ha) hs hw h1).imp ?_;rintro D σ H ⟨B,ρ,E,⟨G,fp,S⟩,h,M⟩;refine S.Tj h λd hd=>⟨hd.1,λv G' H' S' x dv=>?_⟩;obtain ⟨_,ds,h1,h⟩:=hd;obtain ⟨l,xs,_,_,e2,e3,_⟩:=S'.one hm h1;refine ⟨_,e2,S'.ev true h ?_⟩;rintro _ ⟨k,j,rfl,hj,h3⟩;refine ⟨rfl,λv1 G1 H1 S1 x1 zw=>?_⟩;cases zw;obtain ⟨l',nz,nT,e1,ij,qP,bf,put⟩:=S1.one hm h1;cases e1;rw [e2] at ij;cases ij;exact ⟨l,nz,k,j,rfl,rfl,qP,by rw [bf.length];exact hj,M.nx _ h3 _ _ ⟨G1,fp,put _ _ (bf.set (dv.mono x1.gg) j)⟩⟩
end
end L2
namespace mK
open PySem L2 Wb
variable {P:Program} {w:World} {mg:Str→Option Value} {base:Heap} {Z:DC} (T:Txt Z mg)
def CT:cZ:=λds P=>∃(ns:List Int)(k:Nat),ds= [.jq ns,af k]∧∀v:Int,P (.int v)
theorem eu:FnOk P w Z.K mg base cE 1 T.d__law_cell_at.f T.d__law_cell_at.fd ["_law_script","_law_k"] (aV Z CT):=by
 have nd:=jn.nd;refine bo T.d__law_cell_at.F jn [0,0] (by decide) (λds R h=>by obtain ⟨_,_,rfl,_⟩:=h;rfl) (λbz A outer s H E ds R hr h=>?_)
 have hu:=hr.units
 refine ⟨_,(ah (bT (bg pV (aa 1) (ax aO rfl T.B.len aN (ab (aa 0) ag)) (bp _)) (ao (aI (bC (aa 0) (aa 1)))) ba)
   (ao (aI ar))),?_⟩
 obtain ⟨ns,k,rfl,q⟩:=h;refine ⟨_,rfl,_,rfl,?_⟩;refine ⟨_,rfl,dG (λe=>?_) (λe=>?_)⟩
 ·have hk:k<ns.length:=by
   have:=of_decide_eq_true e
   omega
  exact ⟨_,rfl,_,rfl,_,xG (bq hk),q _⟩
 ·exact q 0
def FP:cZ:=λds P=>∃(c:Int),ds= [.int c]∧∀v:Int,P (.int v)
theorem gk(a b:Int)(h:0<b):0≤a%b∧a%b<b:=⟨Int.emod_nonneg _ (by omega),Int.emod_lt_of_pos _ h⟩
theorem GF{i j:Int}{P:D→Prop}{ρ:DN}(h:P (.bl (decide (i=j)))):dC (.int j) ρ (λb=>wd (.int i) b P):=sh h
theorem fw:FnOk P w Z.K mg base cE 1 T.d__law_drawn.f T.d__law_drawn.fd ["_law_cell"] (aV Z FP):=by
 have nd:=kR.nd;refine bo T.d__law_drawn.F kR [0,0] (by decide) (λds R h=>by obtain ⟨_,rfl,_⟩:=h;rfl) (λbz A outer s H E ds R hr h=>?_)
 have hu:=hr.units
 refine ⟨_,(ah (bT (DW.dt (sC (bg (iO hu) (aa 0) ar (bp _)) (rB (DW.dt (Bc (bg (iO hu) (aB cA (aa 0) ar) ar (bp _)) (xX (bg wN (aa 0) (aB Br ar ar) (bp _)))))))) (ao (aI (aB fu (aa 0) ar))) ba)
   (ah (aE false 1 nd (aB cA (aB bJ (aB rF (aB cA (aa 0) ar) ar) ar) ar))
   (ah (aE false 1 nd (aB cA (aB bJ (aB rF (aa 1) (aa 1)) ar) ar))
   (ao (aI (aB fu (aB Br (aB bJ (aa 1) ar) ar) ar)))))),?_⟩
 obtain ⟨c,rfl,q⟩:=h;have m1:=gk (c%2147483629*48271+7919) 2147483647 (by decide)
 have m2:=gk ((c%2147483629*48271+7919)%2147483647*((c%2147483629*48271+7919)%2147483647)+104729) 2147483629 (by decide)
 have fin:∀v:Int,R (.int v):=q;refine ⟨_,rfl,GF ⟨_,rfl,dG (λ_=>cD ⟨_,rfl,⟨by decide,by decide⟩,q _⟩) (λ_=>?_)⟩⟩
 refine ⟨_,rfl,(by show (0:Int)<2;decide),GF ⟨_,rfl,dG (λ_=>⟨_,rfl,⟨by decide,by decide,by decide⟩,_,rfl,dG (λ_=>⟨_,rfl,⟨by decide,by decide⟩,q _⟩) (λ_=>?_)⟩) (λ_=>cy ?_)⟩⟩
 ·refine ⟨_,rfl,(by show (0:Int)<2147483629;decide), .inr ⟨by decide,by decide⟩,(by show (0:Int)<2147483647;decide),trivial,?_⟩
  refine ⟨_,rfl,_,rfl, .inl ⟨by dsimp only;omega,by dsimp only;omega⟩,(by show (0:Int)<2147483629;decide),trivial,?_⟩
  exact ⟨_,rfl,⟨by decide,by decide,by dsimp only;omega⟩,⟨by decide,by decide⟩,q _⟩
 ·refine ⟨_,rfl,(by show (0:Int)<2147483629;decide), .inr ⟨by decide,by decide⟩,(by show (0:Int)<2147483647;decide),trivial,?_⟩
  refine ⟨_,rfl,_,rfl, .inl ⟨by dsimp only;omega,by dsimp only;omega⟩,(by show (0:Int)<2147483629;decide),trivial,?_⟩
  exact ⟨_,rfl,⟨by decide,by decide,by dsimp only;omega⟩,⟨by decide,by decide⟩,q _⟩
theorem qg(w:W)(i:Nat)(r:List Nat):(w.map ai).set i (ai r)=(w.set i r).map ai:=by rw [List.map_set]
theorem dQ{α:Type}(l:List α)(k:Nat)(h:k≤l.length):cutD l (some (k:Int)) none=l.drop k:=by
 unfold cutD
 have e1:HT.bx l.length 0 (some (k:Int))=k:=by
  simp only [HT.bx]
  split<;>omega
 have e2:HT.bx l.length l.length none=l.length:=rfl;rw [e1,e2];exact List.take_of_length_le (by simp)
theorem fZ{w:W}{p:Nat}(h:p<w.length):fU (w.map ai) (p:Int)=some (ai (row w p)):=gN (tZ h)
theorem eW{ns:List Nat}{p:Nat}(h:p<ns.length):fU (ns.map af) (p:Int)=some (af (ns.getD p 0)):=gN (by rw [eJ,aK,bq h];rfl)
variable {P:Program} {w:World} {mg:Str→Option Value} {base:Heap} {Z:DC} (T:Txt Z mg)
def FQ:cZ:=λds P=>∃(n:Int),ds= [.int n]∧∀w R,bR w R→3≤w.length→w.length≤14→P (.tup [aM w,ai R])
theorem tx:FnOk P w Z.K mg base cE 1 T.d__law_grown.f T.d__law_grown.fd ["_law_number"] (aV Z FQ):=by
 have nd:=kS.nd;refine bo T.d__law_grown.F kS [0,1,0,0,0,0,0,0,0] (by decide) (λds R h=>by obtain ⟨_,rfl,_⟩:=h;rfl) (λbz A outer s H E ds R hr h=>?_)
 have hu:=hr.units
 refine ⟨_,(ah (rz 1 nd (rm (ab (cn (ab ar (ab ar ag))) (ab (cn (ab ar (ab ar ag))) (ab (cn (ab ar (ab ar ag))) ag)))))
   (ah (aE false 2 nd (cn (ab ar (ab ar (ab ar ag)))))
   (ah (aE false 3 nd (aB bJ ar (aB cA (aa 0) ar)))
   (ah (aE false 0 nd (aB fu (aa 0) ar))
   (ah (nV rfl PassesOwn.never (zt rfl T.B.range (ab ar (ab (aa 3) ag))) (aL 4 nd) (ah (aE false 5 nd (aB cA (aa 0) (ax aO rfl T.B.len aN (ab (aa 2) ag))))
   (ah (aE false 6 nd (aB bJ ar (aB cA (aB fu (aa 0) (ax aO rfl T.B.len aN (ab (aa 2) ag))) (aB gK (ax aO rfl T.B.len aN (ab (aa 2) ag)) ar))))
   (ah (aE false 0 nd (aB fu (aa 0) (aB rF (ax aO rfl T.B.len aN (ab (aa 2) ag)) (aB gK (ax aO rfl T.B.len aN (ab (aa 2) ag)) ar))))
   (ah (aE false 2 nd (aB bJ (bH (aa 2) (bA (aa 5)) bX) (bH (aa 2) bX (bA (aa 5)))))
   (ah (aE false 7 nd (bH (aa 2) bX (bA (aB bJ (aa 6) ar))))
   (ah (Ba false 1 (xS rfl rfl T.B.list rfl T.B.reversed (ab (aa 7) ag)))
   (ah (mO 1 (bC (aa 7) ar) (rj (cn (ab (aa 4) ag)) (bC (aa 1) (bC (aa 7) ar))))
   (ah (fk rfl PassesOwn.never (cx (bH (aa 7) (bA ar) bX)) (aL 8 nd) (ao (mO 1 (aa 8) (rj (bC (aa 1) (aa 8)) (cn (ab (aa 4) ag))))))
   (ao (aE false 2 nd (aB bJ (cn (ab (bC (aa 7) ar) (ab (aa 4) ag))) (bH (aa 2) (bA (aa 6)) bX)))))))))))))
   (ao (aI (ee (ab (aa 1) (ab (aa 2) ag)))))))))),?_⟩
 obtain ⟨n,rfl,q⟩:=h;refine ⟨by show 2≤sizeLine;decide,by show 2≤sizeLine;decide,by show 2≤sizeLine;decide,by show 3≤sizeLine;decide,?_⟩
 refine ⟨by show 3≤sizeLine;decide,trivial,?_⟩
 refine ⟨_,rfl,(by show (0:Int)<12;decide),trivial,?_⟩
 refine ⟨_,rfl,⟨by decide,by decide⟩,trivial,?_⟩
 have Ya:=gk n 12 (by decide)
 refine ⟨_,rfl,⟨by decide,by decide,by show-(2^62)≤3+n%12;omega,by show 3+n%12<2^62;omega⟩,?_⟩
 rw [show (3+n%12-3).toNat=(n%12).toNat by omega]
 refine yc (λj ρ=>∃(x:Int)(w:W)(R:List Nat)(o4 o5 o6 o7 o8:Option D),ρ= [some (.int x),some (aM w),some (ai R),some (.int (3+n%12)),o4,o5,o6,o7,o8]∧bR w R∧w.length=3+j) ?_ ?_ ?_
 ·exact ⟨_,[[1,2],[2,0],[0,1]],[0,1,2],_,_,_,_,_,rfl,wx,rfl⟩
 ·rintro j _ hj ⟨x,w',R',o4,o5,o6,o7,o8,rfl,Gr,hl⟩ A hA
  have h3:=Gr.len;have XG:=Gr.qc;have lR:(R'.map af).length=R'.length:=aJ _;have e0:(0:Int)<((R'.map af).length:Int):=by rw [lR];omega
  have e1:(0:Int)<((R'.map af).length:Int)-1:=by rw [lR];omega
  have e2:((R'.map af).length:Int)≤14:=by rw [lR];omega
  refine ⟨_,rfl,_,rfl,e0,trivial,?_⟩;refine ⟨_,rfl,_,rfl,⟨e0,by omega⟩,_,rfl,e1,trivial,?_⟩
  have m1:=gk x ((R'.map af).length:Int) e0;have m2:=gk (x / ((R'.map af).length:Int)) (((R'.map af).length:Int)-1) e1;generalize KL:x%((R'.map af).length:Int)=at_ at m1;generalize Oy:x / ((R'.map af).length:Int)%(((R'.map af).length:Int)-1)=fr at m2;obtain ⟨a,rfl⟩:∃a:Nat,at_=(a:Int):=⟨at_.toNat,by omega⟩
  obtain ⟨f',rfl⟩:∃f:Nat,fr=(f:Int):=⟨fr.toNat,by omega⟩
  rw [lR] at m1 m2;have p1:(0:Int)<((R'.map af).length:Int)*(((R'.map af).length:Int)-1):=Int.mul_pos e0 e1;have p2:((R'.map af).length:Int)*(((R'.map af).length:Int)-1)≤14*13:=Int.mul_le_mul e2 (by omega) (by omega) (by decide)
  refine ⟨_,rfl,_,rfl,_,rfl, .inl ⟨by omega,by omega⟩,⟨p1,(show ((R'.map af).length:Int)*(((R'.map af).length:Int)-1)<1073741824 by omega)⟩,trivial,?_⟩
  clear p1 p2;refine (?_:sm _ _ _ [some (.int (x / (((R'.map af).length:Int)*(((R'.map af).length:Int)-1)))),some (aM w'),some (ai R'),some (.int (3+n%12)),some (.int (3+(j:Int))),some (.int (x%((R'.map af).length:Int))),some (.int (1+x / ((R'.map af).length:Int)%(((R'.map af).length:Int)-1))),o7,o8]);rw [KL,Oy];generalize x / (((R'.map af).length:Int)*(((R'.map af).length:Int)-1))=x2;have ca:cutD (R'.map af) (some (a:Int)) none=(R'.drop a).map af:=by rw [dQ _ _ (by rw [lR];omega),lj]
  have cb:cutD (R'.map af) none (some (a:Int))=(R'.take a).map af:=by rw [dR _ _ (by rw [lR];omega),lh]
  have xw:bR w' (R'.drop a++R'.take a):=by
   have:=Gr
   rw [←iH a R'] at this;exact this.AB
  have Pn:(R'.drop a++R'.take a).length=R'.length:=by rw [cj,eN,b8];omega
  have lW:(cutD (R'.map af) (some (a:Int)) none).length+(cutD (R'.map af) none (some (a:Int))).length≤sizeLine:=by
   rw [ca,cb,aJ,aJ];exact small (by rw [cj] at Pn;omega)
  have er:(.lst (cutD (R'.map af) (some (a:Int)) none++cutD (R'.map af) none (some (a:Int))):D)=ai (R'.drop a++R'.take a):=by rw [ca,cb];unfold ai;rw [dJ]
  refine ⟨_,rfl,_,rfl,_,rfl,_,rfl,lW,trivial,?_⟩;refine (?_:sm _ _ _ [some (.int x2),some (aM w'),some (.lst (cutD (R'.map af) (some (a:Int)) none++cutD (R'.map af) none (some (a:Int)))),some (.int (3+n%12)),some (.int (3+(j:Int))),some (.int (a:Int)),some (.int (1+(f':Int))),o7,o8]);rw [er];clear er ca cb lW;generalize R'.drop a++R'.take a=R1 at xw Pn;have l1:(R1.map af).length=R1.length:=aJ _
  have ct:cutD (R1.map af) none (some ((1:Int)+(f':Int)+1))=(R1.take (f'+1+1)).map af:=by
   rw [show (1:Int)+(f':Int)+1=((f'+1+1:Nat):Int) by omega,dR _ _ (by rw [l1];omega),lh]
  refine ⟨_,rfl,_,rfl,trivial,?_⟩;refine (?_:sm _ _ _ [some (.int x2),some (aM w'),some (ai R1),some (.int (3+n%12)),some (.int (3+(j:Int))),some (.int (a:Int)),some (.int (1+(f':Int))),some (.lst (cutD (R1.map af) none (some ((1:Int)+(f':Int)+1)))),o8]);rw [ct];have Cs:(R1.take (f'+1+1)).length=f'+2:=by rw [b8];omega
  have la:((R1.take (f'+1+1)).map af).length=f'+2:=by rw [aJ];exact Cs
  have lw:(w'.map ai).length=3+j:=by rw [aJ];exact hl
  refine ⟨_,rfl,_,rfl,trivial,jP (by rw [lw];omega),?_⟩
  have ea:(.lst (w'.map ai++ [.lst ((R1.take (f'+1+1)).map af).reverse]):D)=aM (w'++ [(R1.take (f'+1+1)).reverse]):=by
   unfold aM ai;rw [dJ,←List.map_reverse];rfl
  refine (?_:sm _ _ _ [some (.int x2),some (.lst (w'.map ai++ [.lst ((R1.take (f'+1+1)).map af).reverse])),some (ai R1),some (.int (3+n%12)),some (.int (3+(j:Int))),some (.int (a:Int)),some (.int (1+(f':Int))),some (ai (R1.take (f'+1+1))),o8]);rw [ea];clear ea;have QB:R1.getD 0 0<w'.length:=xw.LU (ay (by omega))
  have g0:(R1.take (f'+1+1)).getD 0 0=R1.getD 0 0:=by rw [aK,pe (by omega),←aK]
  have a0:fU ((R1.take (f'+1+1)).map af) (0:Int)=some (af (R1.getD 0 0)):=by
   have:=eW (ns:=R1.take (f'+1+1)) (p:=0) (by omega)
   rw [g0] at this;exact this
  have X9:(w'++ [(R1.take (f'+1+1)).reverse]).length=w'.length+1:=by simp
  have a1:=fZ (w:=w'++ [(R1.take (f'+1+1)).reverse]) (p:=R1.getD 0 0) (by omega)
  rw [tO,if_neg (by omega)] at a1
  have Yc:=h7 xw.g (R1.getD 0 0);have ev:(3:Int)+(j:Int)=((w'.length:Nat):Int):=by omega
  refine ⟨_,rfl,by show 1≤sizeLine;decide,_,rfl,_,rfl,_,rfl,_,a0,_,a1,_,rfl,small (by rw [aJ];show 1+_≤1000;omega),?_,_,rfl,_,rfl,_,a0,_,R1.getD 0 0,rfl,i9 (by rw [aJ];omega),?_⟩
  ·rw [List.all_append,b6];rfl
  have M0:=vS.start (w:=w') (R:=R1) (f:=f'+1) QB
  have es:(.lst (((w'++ [(R1.take (f'+1+1)).reverse]).map ai).set (R1.getD 0 0) (.lst ([.int ((3:Int)+(j:Int))]++(row w' (R1.getD 0 0)).map af))):D)=aM ((w'++ [(R1.take (f'+1+1)).reverse]).set (R1.getD 0 0) (w'.length::row w' (R1.getD 0 0))):=by
   rw [ev];unfold aM;rw [←qg];rfl
  refine (?_:sm _ _ _ [some (.int x2),some (.lst (((w'++ [(R1.take (f'+1+1)).reverse]).map ai).set (R1.getD 0 0) (.lst ([.int ((3:Int)+(j:Int))]++(row w' (R1.getD 0 0)).map af)))),some (ai R1),some (.int (3+n%12)),some (.int (3+(j:Int))),some (.int (a:Int)),some (.int (1+(f':Int))),some (ai (R1.take (f'+1+1))),o8]);rw [es];clear es a1
  have cd:cutD ((R1.take (f'+1+1)).map af) (some (1:Int)) none=((R1.take (f'+1+1)).drop 1).map af:=by
   have:=dQ ((R1.take (f'+1+1)).map af) 1 (by rw [la];omega)
   rw [lj];exact this
  have ld:((R1.take (f'+1+1)).drop 1).length=f'+1:=by rw [eN,Cs];omega
  refine ⟨_,rfl,?_⟩;refine (?_:kB _ _ _ (cutD ((R1.take (f'+1+1)).map af) (some (1:Int)) none) _);rw [cd];refine di (λk ρ=>∃(w2:W)(o8:Option D),ρ= [some (.int x2),some (aM w2),some (ai R1),some (.int (3+n%12)),some (.int (3+(j:Int))),some (.int (a:Int)),some (.int (1+(f':Int))),some (ai (R1.take (f'+1+1))),o8]∧vS w' w2 R1 (f'+1) k) ⟨_,_,rfl,M0⟩ ?_ ?_
  ·rintro k d _ hd ⟨w2,p8,rfl,M⟩ A' zG
   obtain ⟨y,hy,rfl⟩:=eV hd
   have hk:k<f'+1:=by
    have:=(fC.mp hy).1
    omega
   have ey:y=R1.getD (k+1) 0:=by
    rw [vL,pe (by omega)] at hy
    rw [aK,Nat.add_comm k 1,hy];rfl
   subst ey;have Xx:R1.getD (k+1) 0<w'.length:=xw.LU (ay (by omega))
   have l2:=M.l;have a2:=fZ (w:=w2) (p:=R1.getD (k+1) 0) (by omega)
   have rl:(row w2 (R1.getD (k+1) 0)).length≤14:=by
    rw [M.ro _ (by omega) (λi hi e=>by have:=getD_inj xw.nd (by omega) (by omega) e;omega)]
    have:=h7 xw.g (R1.getD (k+1) 0)
    omega
   refine ⟨_,rfl,_,rfl,_,a2,_,rfl,_,rfl,by show 1≤sizeLine;decide,_,rfl,small (by rw [aJ];show _+1≤1000;omega),?_,_,rfl,_,rfl,_,R1.getD (k+1) 0,rfl,i9 (by rw [aJ];omega),?_⟩
   ·rw [List.all_append,b6];rfl
   refine zG _ ⟨w2.set (R1.getD (k+1) 0) (row w2 (R1.getD (k+1) 0)++ [w'.length]),some (af (R1.getD (k+1) 0)),?_,M.step xw.nd (by omega) (by omega) Xx⟩
   have Eb:(.lst ((w2.map ai).set (R1.getD (k+1) 0) (.lst ((row w2 (R1.getD (k+1) 0)).map af++ [.int ((3:Int)+(j:Int))]))):D)=aM (w2.set (R1.getD (k+1) 0) (row w2 (R1.getD (k+1) 0)++ [w'.length])):=by
    rw [ev];unfold aM;rw [←qg];unfold ai;rw [dJ];rfl
   rw [←Eb];rfl
  ·rintro _ ⟨w2,p8,rfl,M⟩
   rw [aJ,ld] at M;have St:=M.fin (by omega) (by omega)
   have G2:=yY xw St
   have cf:cutD (R1.map af) (some ((1:Int)+(f':Int))) none=(R1.drop (f'+1)).map af:=by
    rw [show (1:Int)+(f':Int)=((f'+1:Nat):Int) by omega,dQ _ _ (by rw [l1];omega),lj]
   have Xn:(2:Nat)+(cutD (R1.map af) (some ((1:Int)+(f':Int))) none).length≤sizeLine:=by
    rw [cf,aJ,eN];exact small (by omega)
   refine ⟨_,rfl,_,a0,_,rfl,by show 2≤sizeLine;decide,_,rfl,_,rfl,Xn,trivial,?_⟩
   refine hA _ ⟨x2,w2,bL R1 (f'+1) w'.length,some (.int (3+(j:Int))),some (.int (a:Int)),some (.int (1+(f':Int))),some (ai (R1.take (f'+1+1))),p8,?_,G2,by rw [M.l];omega⟩
   have ef:(.lst ([af (R1.getD 0 0), .int ((3:Int)+(j:Int))]++cutD (R1.map af) (some ((1:Int)+(f':Int))) none):D)=ai (bL R1 (f'+1) w'.length):=by
    rw [cf,ev];unfold bL ai;rfl
   rw [←ef];rfl
 ·rintro _ ⟨x,w',R',o4,o5,o6,o7,o8,rfl,Gr,hl⟩
  exact ⟨_,rfl,_,rfl,by show 2≤sizeLine;decide,q _ _ Gr (by omega) (by omega)⟩
end mK
namespace Wb
theorem Disc.congr{w:W}{R:List Nat}{A A':Nat×Nat→Prop}(D:Disc w R A)(h:∀d,A d↔A' d):Disc w R A':=by
 have:A=A':=funext λd=>propext (h d)
 rw [←this];exact D
def Full(w:W)(R:List Nat):Prop:=Disc w R λd=>aF w d∧¬bG R d.1 d.2
theorem Dh{a b:List Nat}(nd:(a++b).Nodup)(x y:Nat):bG (b++a) x y↔bG (a++b) x y:=by
 have mem:∀p,p∈b++a↔p∈a++b:=λp=>List.perm_append_comm.mem_iff
 constructor
 ·rintro ⟨h,e⟩;exact ⟨(mem x).mp h,by rw [e,e7 nd ((mem x).mp h)]⟩
 ·rintro ⟨h,e⟩;exact ⟨(mem x).mpr h,by rw [e,e7 nd h]⟩
theorem Full.AB{w:W}{a b:List Nat}(F:Full w (a++b)):Full w (b++a):=
 (Disc.AB F).congr λd=>by rw [Dh F.nd]
theorem bR.full{w:W}{R:List Nat}(G:bR w R):Full w R:=G.D2
theorem jv.full{w w':W}{f:Nat→Nat}(N:jv w w' f)(g:Good w){R:List Nat}(F:Full w R):Full w' (R.map f):=by
 refine (N.D2 g F).congr λd=>?_;have ke:∀{x y},aF w (x,y)→x<w.length∧y<w.length:=λh=>⟨bu h,g.rng _ _ h⟩;have Ac:∀p∈R,p<w.length:=λp hp=>(ke (F.ring p hp).1).2;have inj:∀p∈R,∀y∈R,f y=f p→y=p:=λp hp y hy e=>N.inj y p (Ac y hy) (Ac p hp) e;have sR:∀p∈R,ae (R.map f) (f p)=f (ae R p):=λp hp=>nj (inj p hp) hp
 have key:∀x y,x<w.length→y<w.length→(bG (R.map f) (f x) (f y)↔bG R x y):=λx y hx hy=>by
  constructor
  ·rintro ⟨hm,e⟩
   obtain ⟨p,hp,ep⟩:=cT.mp hm
   have:=N.inj p x (Ac p hp) hx ep
   subst this;rw [sR p hp] at e;exact ⟨hp,N.inj y _ hy (Ac _ (bc hp)) e⟩
  ·rintro ⟨hm,e⟩
   exact ⟨cT.mpr ⟨x,hm,rfl⟩,by rw [sR x hm,e]⟩
 constructor
 ·rintro ⟨x,y,⟨h1,h2⟩,rfl⟩
  have:=ke h1
  exact ⟨(N.dart g this.1 this.2).mpr h1,λz=>h2 ((key x y this.1 this.2).mp z)⟩
 ·rintro ⟨h1,h2⟩
  obtain ⟨x,y,h,rfl⟩:=N.all g h1
  have:=ke h
  exact ⟨x,y,⟨h,λz=>h2 ((key x y this.1 this.2).mpr z)⟩,rfl⟩
theorem z6{w:W}(g:Good w)(tri:∀d,aF w d→aW w (aW w (aW w d))=d){a b:Nat}(hd:aF w (a,b)):Full w [a,b,ae (row w b) a]:=by
 have D:=z5 g tri hd;refine D.congr λd=>?_;have nd:=D.nd;generalize ae (row w b) a=c at*;have s1:ae [a,b,c] a=b:=bF (a:= []) (b:= [c]) nd;have s2:ae [a,b,c] b=c:=bF (a:= [a]) (b:= []) nd;have s3:ae [a,b,c] c=a:=cM (b:= [b]) nd;obtain ⟨x,y⟩:=d;refine and_congr Iff.rfl ?_
 constructor
 ·rintro ⟨h1,h2,h3⟩ ⟨hm,e⟩
  have e:y=ae [a,b,c] x:=e;have hm:x=a∨x=b∨x=c:=by simpa using hm
  rcases hm with rfl|rfl|rfl
  ·exact h1 (by rw [e,s1])
  ·exact h2 (by rw [e,s2])
  ·exact h3 (by rw [e,s3])
 ·intro h
  refine ⟨λz=>h ?_,λz=>h ?_,λz=>h ?_⟩
  ·obtain ⟨rfl,rfl⟩:=Prod.mk.injEq .. ▸z;exact ⟨by simp,s1.symm⟩
  ·obtain ⟨rfl,rfl⟩:=Prod.mk.injEq .. ▸z;exact ⟨by simp,s2.symm⟩
  ·obtain ⟨rfl,rfl⟩:=Prod.mk.injEq .. ▸z;exact ⟨by simp,s3.symm⟩
theorem Good.xa{w:W}(g:Good w)(h2:2≤w.length){p:Nat}(hp:p<w.length):row w p≠ []:=by
 obtain ⟨p',iL,ne⟩:∃p',p'<w.length∧p'≠p:=by
  by_cases c:p=0
  ·exact ⟨1,by omega,by omega⟩
  ·exact ⟨0,by omega,by omega⟩
 have r:=((g.con p' iL).symm g.sym).trans (g.con p hp);cases r with
 |refl=>exact absurd rfl ne
 |step _ h=>
  have:=g.sym _ _ h
  intro e;rw [e] at this;cases this
end Wb
namespace mK
open PySem L2 Wb
variable {P:Program} {w:World} {mg:Str→Option Value} {base:Heap} {Z:DC} (T:Txt Z mg)
theorem pL{g:cU}{tb:dD}{E:gf}{n:Nat}{ρ:DN}(I:Nat→DN→Prop)(h0:I 0 ρ)(hs:∀(j:Nat)(ρ:DN),j<n→I j ρ→∀A:DN→Prop,(∀ρ,I (j+1) ρ→A ρ)→g (af j) ρ λaT=>tb {nx:=A,ct:=A,bk:=E.nx,rt:=E.rt} aT)
  (he:∀ρ,I n ρ→E.nx ρ):kB g tb E (eB 0 n) ρ:=yc I h0 (λj ρ hj h A hA=>by
 have:=hs j ρ hj h A hA
 unfold af at this;rw [Int.zero_add];exact this) he
theorem Ci(r:List Nat)(i x:Nat):ins (r.map af) i (af x)=(ins r i x).map af:=by
 unfold ins;simp [lh,lj]
def vT(n:Nat)(ns:List Nat):Prop:=ns.length=n∧ns.Nodup∧∀x∈ns,x<n
theorem Ag{n:Nat}{ns:List Nat}(N:vT n ns){x:Nat}(h:x<n):x∈ns:=by
 apply Classical.byContradiction;intro hx
 have:(x::ns).length≤(List.range n).length:=aU (fJ.mpr ⟨hx,N.2.1⟩) λy hy=>by
  rcases bQ.mp hy with rfl|hy
  ·exact cm.mpr h
  ·exact cm.mpr (N.2.2 y hy)
 rw [gG,dY,N.1] at this;omega
theorem tm{f:DN→Prop}{aA:DN}(ρ:DN)(e:aA=ρ)(h:f ρ):f aA:=by rw [e];exact h
structure NR (w F:W) (ns:List Nat) (k:Nat):Prop where
 l:F.length=w.length
 r:∀i,i<k→∃a b,row w i=a++b∧row F (ns.getD i 0)=(b++a).map λx=>ns.getD x 0
theorem NR.step{w F:W}{ns:List Nat}{k a:Nat}(h:NR w F ns k)(N:vT w.length ns)(hk:k<w.length):NR w (F.set (ns.getD k 0) (((row w k).drop a++(row w k).take a).map λx=>ns.getD x 0)) ns (k+1):=by
 have lt:ns.getD k 0<F.length:=by rw [h.l];exact N.2.2 _ (ay (by rw [N.1];exact hk))
 refine ⟨by rw [j6];exact h.l,λi hi=>?_⟩
 by_cases c:i=k
 ·subst c
  exact ⟨(row w i).take a,(row w i).drop a,(iH _ _).symm,by rw [oN lt,if_pos rfl]⟩
 ·obtain ⟨x,y,e1,e2⟩:=h.r i (by omega)
  exact ⟨x,y,e1,by rw [oN lt,if_neg (λz=>c (getD_inj N.2.1 (by rw [N.1];omega) (by rw [N.1];omega) z.symm)),e2]⟩
theorem NR.W8{w F:W}{ns:List Nat}(h:NR w F ns w.length)(N:vT w.length ns):jv w F λx=>ns.getD x 0 where
 len:=h.l
 lt:=λx hx=>N.2.2 _ (ay (by rw [N.1];exact hx))
 inj:=λx y hx hy e=>getD_inj N.2.1 (by rw [N.1];exact hx) (by rw [N.1];exact hy) e
 onto:=λy hy=>by
  obtain ⟨i,hi,e⟩:=eX.mp (Ag N hy);exact ⟨i,by rw [N.1] at hi;exact hi,by rw [aK,bq hi];exact e⟩
 rows:=λx hx=>h.r x hx
def CV:cZ:=λds P=>∃(w:W)(R:List Nat)(num:Int),ds= [aM w,ai R, .int num]∧Good w∧kj w∧3≤w.length∧w.length≤14∧Full w R∧∀F R',Good F→kj F→F.length=w.length→Full F R'→P (.tup [aM F,ai R'])
theorem Full.qc{w:W}{R:List Nat}(g:Good w)(F:Full w R):R.length≤w.length:=by
 have:=aU F.nd (m:=List.range w.length) λx hx=>cm.mpr (g.rng _ _ (F.ring x hx).1)
 rw [gG] at this;exact this
theorem tB:FnOk P w Z.K mg base cE 1 T.d__law_named.f T.d__law_named.fd ["_law_turns","_law_ring","_law_number"] (aV Z CV):=by
 have nd:=kT.nd;refine bo T.d__law_named.F kT [0,0,0,1,0,1,0,0] (by decide) (λds R h=>by obtain ⟨_,_,_,rfl,_⟩:=h;rfl) (λbz A outer s H E ds R hr h=>?_)
 have hu:=hr.units
 refine ⟨_,(ah (rz 3 nd (rm ag))
   (ah (nV rfl PassesOwn.never (mN rfl T.B.range (ab (ax aO rfl T.B.len aN (ab (aa 0) ag)) ag)) (aL 4 nd) (ah (GC false 3 (aB cA (aa 2) (aB bJ (aa 4) ar)) (aa 4))
   (ao (aE false 2 nd (aB fu (aa 2) (aB bJ (aa 4) ar))))))
   (ah (uR 5 (NC:= ["_law_row"]) (src:= [none]) rfl nd (qN (au dr)) trivial (cx (aa 0)) (λ_ _ _=>(cw 0 (show (["_law_row"]:List Str).Nodup from by decide+kernel))) (λ_ _ _=>eT) (λ_ _ _=>(cn ag)))
   (ah (fk rfl PassesOwn.never (gZ rfl T.B.enumerate (ab (aa 0) ag)) (eZ 2 rfl (aY (aL 4 nd) (aY (aL 6 nd) cH))) (ah (aE false 7 nd (aB cA (aa 2) (ax aO rfl T.B.len aN (ab (aa 6) ag))))
   (ah (aE false 2 nd (aB fu (aa 2) (ax aO rfl T.B.len aN (ab (aa 6) ag))))
   (ao (mO 5 (bC (aa 3) (aa 4)) (Kf (NC:= ["_law_other","_law_names"]) (src:= [none,some 3]) rfl (qN (au dr)) ⟨rfl,rfl,trivial⟩ (cx (aB bJ (bH (aa 6) (bA (aa 7)) bX) (bH (aa 6) bX (bA (aa 7))))) (λ_ _ _=>(cw 0 (show (["_law_other","_law_names"]:List Str).Nodup from by decide+kernel))) (λ_ _ _=>eT) (λ_ _ _=>(bC (aa 1) (aa 0)))))))))
   (ah (aE false 7 nd (aB cA (aa 2) (ax aO rfl T.B.len aN (ab (aa 1) ag))))
   (ao (aI (ee (ab (aa 5) (ab (sr (NC:= ["_law_point","_law_names"]) (src:= [none,some 3]) rfl (qN (au dr)) ⟨rfl,rfl,trivial⟩ (cx (aB bJ (bH (aa 1) (bA (aa 7)) bX) (bH (aa 1) bX (bA (aa 7))))) (λ_ _ _=>(cw 0 (show (["_law_point","_law_names"]:List Str).Nodup from by decide+kernel))) (λ_ _ _=>eT) (λ_ _ _=>(bC (aa 1) (aa 0)))) ag)))))))))),?_⟩
 obtain ⟨w',R',num,rfl,g,B,h3,bw,Fl,q⟩:=h;have lw:(w'.map ai).length=w'.length:=aJ _;refine ⟨by show 0≤sizeLine;decide,?_⟩
 refine ⟨_,rfl,⟨by omega,by show ((w'.map ai).length:Int)<2^62;omega⟩,?_⟩
 rw [show (((w'.map ai).length:Int)).toNat=w'.length by omega]
 refine pL (λj ρ=>∃(y:Int)(ns:List Nat)(o4 o5 o6 o7:Option D),ρ= [some (aM w'),some (ai R'),some (.int y),some (ai ns),o4,o5,o6,o7]∧vT j ns) ⟨num,[],_,_,_,_,rfl,rfl,j8,λx h=>by cases h⟩ ?_ ?_
 ·rintro j _ hj ⟨y,ns,o4,o5,o6,o7,rfl,hl,nd,lt⟩ A hA
  have mq:=gk y ((j:Int)+1) (by omega)
  have lr:(ns.map af).length=j:=by rw [aJ,hl]
  refine ⟨_,rfl,_,rfl,_,rfl,by show (0:Int)<(j:Int)+1;omega,_,rfl,_,rfl,trivial,⟨mq.1,by rw [lr];show y%((j:Int)+1)≤_;omega,jP (by rw [lr];omega)⟩,?_⟩
  refine ⟨_,rfl,_,rfl,⟨by show (0:Int)<(j:Int)+1;omega,by show (j:Int)+1<1073741824;omega⟩,trivial,?_⟩
  refine hA _ ⟨y / ((j:Int)+1),ins ns (y%((j:Int)+1)).toNat j,some (af j),o5,o6,o7,?_,by rw [yk,hl],Ah nd (λz=>by have:=lt j z;omega),λx hx=>?_⟩
  ·unfold ai;rw [←Ci];rfl
  ·rcases EN.mp hx with rfl|hx
   ·omega
   ·have:=lt x hx;omega
 ·rintro _ ⟨y,ns,o4,o5,o6,o7,rfl,N⟩
  refine ⟨_,rfl,jC (ρ:= [none]) ai (λ_=> .lst []) w' _ (λy hy Y h=>⟨by show 0≤sizeLine;decide,h⟩) rfl (small (by omega)) λaA=>?_⟩
  have e0:(.lst (w'.map λ_=>(.lst []:D)):D)=aM (w'.map λ_=> []):=by unfold aM;rw [fK];rfl
  refine (?_:sm _ _ _ [some (aM w'),some (ai R'),some (.int y),some (ai ns),o4,some (.lst (w'.map λ_=>(.lst []:D))),o6,o7]);rw [e0];refine ⟨_,rfl,di (λk ρ=>∃(y:Int)(F:W)(o4 o6 o7:Option D),ρ= [some (aM w'),some (ai R'),some (.int y),some (ai ns),o4,some (aM F),o6,o7]∧NR w' F ns k) ⟨_,_,_,_,_,rfl,by simp,λi h=>by omega⟩ ?_ ?_⟩
  ·rintro k d _ hd ⟨y,F,p4,p6,p7,rfl,nr⟩ A hA
   obtain ⟨d',hy,rfl⟩:=jy hd;obtain ⟨r,ON,rfl⟩:=eV hy;have hk:k<w'.length:=(fC.mp ON).1;have er:row w' k=r:=BG ON
   have QM:0<r.length:=by
    have:=g.xa (by omega) hk
    rw [er] at this;exact ue.mpr this
   have rl:=h7 g k;rw [er] at rl;have lr:(r.map af).length=r.length:=aJ _;have e1:(0:Int)<((r.map af).length:Int):=by rw [lr];omega
   refine ⟨rfl,rfl,?_⟩;refine ⟨_,rfl,_,rfl,e1,trivial,?_⟩;refine ⟨_,rfl,_,rfl,⟨e1,by rw [lr];omega⟩,trivial,?_⟩
   have m1:=gk y ((r.map af).length:Int) e1;refine tm [some (aM w'),some (ai R'),some (.int (y / ((r.map af).length:Int))),some (ai ns),some (af k),some (aM F),some (ai r),some (.int (y%((r.map af).length:Int)))] rfl ?_;generalize KL:y%((r.map af).length:Int)=at_ at m1;obtain ⟨a,rfl⟩:∃a:Nat,at_=(a:Int):=⟨at_.toNat,by omega⟩
   rw [lr] at m1;have ca:cutD (r.map af) (some (a:Int)) none=(r.drop a).map af:=by rw [dQ _ _ (by rw [lr];omega),lj]
   have cb:cutD (r.map af) none (some (a:Int))=(r.take a).map af:=by rw [dR _ _ (by rw [lr];omega),lh]
   have l2:(r.drop a++r.take a).length=r.length:=by rw [cj,eN,b8];omega
   have lW:(cutD (r.map af) (some (a:Int)) none).length+(cutD (r.map af) none (some (a:Int))).length≤sizeLine:=by
    rw [ca,cb,aJ,aJ];exact small (by rw [cj] at l2;omega)
   refine ⟨_,rfl,_,rfl,_,rfl,_,rfl,lW,?_⟩;refine (?_:lcW _ _ _ (cutD (r.map af) (some (a:Int)) none++cutD (r.map af) none (some (a:Int))) _ _ _);rw [ca,cb,←dJ];refine jC (ρ:= [none,some (ai ns)]) af (λo=>af (ns.getD o 0)) (r.drop a++r.take a) _ (λo ho Y hY=>?_) rfl (small (by omega)) λaA=>?_
   ·have:o∈r:=by
     have:o∈r.take a++r.drop a:=List.perm_append_comm.mem_iff.mp ho
     rw [iH] at this;exact this
    have b4:o<ns.length:=by rw [N.1];exact g.rng k o (by rw [er];exact this)
    exact ⟨_,rfl,_,rfl,_,eW b4,hY⟩
   ·have OC:k<ns.length:=by rw [N.1];exact hk
    have Wv:ns.getD k 0<F.length:=by rw [nr.l];exact N.2.2 _ (ay OC)
    refine ⟨?_,_,rfl,_,rfl,_,rfl,_,eW OC,_,ns.getD k 0,rfl,i9 (by rw [aJ];exact Wv),?_⟩
    ·rw [List.all_map,List.all_eq_true];intro x _;rfl
    ·have Pz:=nr.step (a:=a) N hk
     rw [er] at Pz;refine hA _ ⟨y / ((r.map af).length:Int),_,some (af k),some (ai r),some (.int (a:Int)),?_,Pz⟩
     have es:(.lst ((F.map ai).set (ns.getD k 0) (.lst ((r.drop a++r.take a).map λo=>af (ns.getD o 0)))):D)=aM (F.set (ns.getD k 0) ((r.drop a++r.take a).map λx=>ns.getD x 0)):=by
      unfold aM;rw [←qg];unfold ai;rw [fK];rfl
     rw [←es];rfl
  ·rintro _ ⟨y,F,p4,p6,p7,rfl,nr⟩
   rw [zx,lw] at nr;have Rn:=nr.W8 N;have lR:(R'.map af).length=R'.length:=aJ _;have XY:=Fl.len;have XZ:=Full.qc g Fl;have e1:(0:Int)<((R'.map af).length:Int):=by rw [lR];omega
   refine ⟨_,rfl,_,rfl,e1,trivial,?_⟩;have m1:=gk y ((R'.map af).length:Int) e1;refine tm [some (aM w'),some (ai R'),some (.int y),some (ai ns),p4,some (aM F),p6,some (.int (y%((R'.map af).length:Int)))] rfl ?_;generalize KL:y%((R'.map af).length:Int)=at_ at m1;obtain ⟨a,rfl⟩:∃a:Nat,at_=(a:Int):=⟨at_.toNat,by omega⟩
   rw [lR] at m1;have ca:cutD (R'.map af) (some (a:Int)) none=(R'.drop a).map af:=by rw [dQ _ _ (by rw [lR];omega),lj]
   have cb:cutD (R'.map af) none (some (a:Int))=(R'.take a).map af:=by rw [dR _ _ (by rw [lR];omega),lh]
   have l2:(R'.drop a++R'.take a).length=R'.length:=by rw [cj,eN,b8];omega
   have lW:(cutD (R'.map af) (some (a:Int)) none).length+(cutD (R'.map af) none (some (a:Int))).length≤sizeLine:=by
    rw [ca,cb,aJ,aJ];exact small (by rw [cj] at l2;omega)
   have Fr:Full w' (R'.drop a++R'.take a):=by
    have:=Fl
    rw [←iH a R'] at this;exact this.AB
   refine ⟨_,rfl,_,rfl,_,rfl,_,rfl,_,rfl,lW,?_⟩;refine (?_:lcW _ _ _ (cutD (R'.map af) (some (a:Int)) none++cutD (R'.map af) none (some (a:Int))) _ _ _);rw [ca,cb,←dJ];refine jC (ρ:= [none,some (ai ns)]) af (λo=>af (ns.getD o 0)) (R'.drop a++R'.take a) _ (λo ho Y hY=>?_) rfl (small (by omega)) λaA=>?_
   ·have b4:o<ns.length:=by rw [N.1];exact g.rng _ _ (Fr.ring o ho).1
    exact ⟨_,rfl,_,rfl,_,eW b4,hY⟩
   ·refine ⟨by show 2≤sizeLine;decide,?_⟩
    have e2:(.lst ((R'.drop a++R'.take a).map λo=>af (ns.getD o 0)):D)=ai ((R'.drop a++R'.take a).map λx=>ns.getD x 0):=by unfold ai;rw [fK];rfl
    have:=q F ((R'.drop a++R'.take a).map λx=>ns.getD x 0) (Rn.good g) (Rn.bnd g B) nr.l (Rn.full g Fr)
    rw [←e2] at this;exact this
variable {P:Program} {w:World} {mg:Str→Option Value} {base:Heap} {Z:DC} (T:Txt Z mg)
theorem wM{x:Nat}:∀(ns:List Nat)(m:Nat),m<ns.idxOf x→ns[m]? ≠some x
 | [],m,h=>by simp at h
 |a::ns,m,h=>by
  rw [vQ] at h
  by_cases e:(a==x)=true
  ·rw [e] at h;simp at h
  ·rw [vN.mpr e] at h
   cases m with
   |zero=>intro z;simp at z;exact e (by simp [z])
   |succ m=>rw [ua];exact wM ns m (by simpa using h)
theorem zW{ns:List Nat}{x:Nat}{P:D→Prop}(h:x∈ns)(q:P (af (ns.idxOf x))):eO (af x)=true∧(ns.map af).all eO=true∧∃(j:Nat)(z:D),(ns.map af)[j]? =some z∧iw z (af x)=true∧(∀(m:Nat) z,m<j→(ns.map af)[m]? =some z→iw z (af x)=false)∧P (.int (j:Nat)):=by
 have hl:=fH.mpr h;have e:ns[ns.idxOf x]? =some x:=by rw [bq hl];exact congrArg some (gE hl)
 refine ⟨rfl,b6 _,ns.idxOf x,af x,by rw [eJ,e];rfl,by simp [iw,af],λm z hm hz=>?_,q⟩
 obtain ⟨y,hy,rfl⟩:=eV hz
 have:y≠x:=by
  rintro rfl;exact wM _ _ hm hy
 have:¬((y:Int)=(x:Int)):=by omega
 simpa [iw,af] using this
theorem bB{ns:List Nat}{x:Nat}(h:x∈ns):(ns.map af)[ns.idxOf x]? =some (af x)∧iw (af x) (af x)=true∧∀(m:Nat) z,m<ns.idxOf x→(ns.map af)[m]? =some z→iw z (af x)=false:=by
 have:=zW (P:=λd=>d=af (ns.idxOf x)) h rfl
 obtain ⟨_,_,j,z,h1,h2,h3,h4⟩:=this;have hl:=fH.mpr h;have e:ns[ns.idxOf x]? =some x:=by rw [bq hl];exact congrArg some (gE hl)
 refine ⟨by rw [eJ,e];rfl,by simp [iw,af],λm z hm hz=>?_⟩
 obtain ⟨y,hy,rfl⟩:=eV hz
 have:y≠x:=by
  rintro rfl;exact wM _ _ hm hy
 have:¬((y:Int)=(x:Int)):=by omega
 simpa [iw,af] using this
theorem ng(n:Nat):eB 0 n=(List.range n).map λ(x:Nat)=>af x:=by unfold eB af;simp
def FO:cZ:=λds P=>∃(ns:List Int),ds= [.jq ns]∧∀F R,Good F→kj F→3≤F.length→F.length≤14→Full F R→P (.tup [aM F,ai R])
theorem tw:FnOk P w Z.K mg base cE 2 T.d__law_built.f T.d__law_built.fd ["_law_script"] (aV Z FO):=by
 have nd:=kQ.nd;refine bo T.d__law_built.F kQ [0,0,0,0,0,0,0] (by decide) (λds R h=>by obtain ⟨_,rfl,_⟩:=h;rfl) (λbz A outer s H E ds R hr h=>?_)
 have hu:=hr.units
 refine ⟨_,(ah (nU (az T.d__law_grown (tx T) hr (ab (az T.d__law_drawn (fw T) hr (ab (az T.d__law_cell_at (eu T) hr (ab (aa 0) (ab ar ag))) ag)) ag)) (eZ 2 rfl (aY (aL 1 nd) (aY (aL 2 nd) cH))))
   (ah (aE false 3 nd (az T.d__law_drawn (fw T) hr (ab (az T.d__law_cell_at (eu T) hr (ab (aa 0) (ab ar ag))) ag)))
   (ah (bT (bg (iO hu) (ax aO rfl T.B.len aN (ab (aa 2) ag)) ar (bp _)) (ah (aE false 4 nd (aB cA (aa 3) (ax aO rfl T.B.len aN (ab (aa 1) ag))))
   (ah (aE false 5 nd (bC (bC (aa 1) (aa 4)) (aB cA (aB fu (aa 3) (ax aO rfl T.B.len aN (ab (aa 1) ag))) (ax aO rfl T.B.len aN (ab (bC (aa 1) (aa 4)) ag)))))
   (ah (aE false 6 nd (bC (aa 1) (aa 5)))
   (ao (aE false 2 nd (cn (ab (aa 4) (ab (aa 5) (ab (bC (aa 6) (aB cA (aB bJ (lE (aa 6) (aa 4)) ar) (ax aO rfl T.B.len aN (ab (aa 6) ag)))) ag))))))))) ba)
   (ao (aI (az T.d__law_named (tB T) hr (ab (aa 1) (ab (aa 2) (ab (az T.d__law_drawn (fw T) hr (ab (az T.d__law_cell_at (eu T) hr (ab (aa 0) (ab ar ag))) ag)) ag))))))))),?_⟩
 obtain ⟨ns,rfl,q⟩:=h;refine ⟨_,rfl,ns,0,rfl,λv0=>⟨v0,rfl,λv1=>⟨v1,rfl,λw' R' Gr h3 bw=>?_⟩⟩⟩;refine ⟨rfl,rfl,?_⟩;refine ⟨_,rfl,ns,4,rfl,λv2=>⟨v2,rfl,λv3=>⟨trivial,?_⟩⟩⟩;have lR:(R'.map af).length=R'.length:=aJ _;have lw:(w'.map ai).length=w'.length:=aJ _;refine ⟨_,rfl,?_⟩;dsimp only [nM,xH];refine GF ⟨_,rfl,dG (λe=>?_) (λe=>?_)⟩
 ·have e3:R'.length=3:=by have:=of_decide_eq_true e;omega
  have tri:=λd hd=>Gr.three e3 (d:=d) hd;have e1:(0:Int)<((w'.map ai).length:Int):=by rw [lw];omega
  refine ⟨_,rfl,_,rfl,e1,trivial,?_⟩;have m1:=gk v3 ((w'.map ai).length:Int) e1;refine tm [some (.jq ns),some (aM w'),some (ai R'),some (.int v3),some (.int (v3%((w'.map ai).length:Int))),none,none] rfl ?_;generalize v3%((w'.map ai).length:Int)=x1 at m1;obtain ⟨p,rfl⟩:∃a:Nat,x1=(a:Int):=⟨x1.toNat,by omega⟩
  rw [lw] at m1;have hp:p<w'.length:=by omega
  have QM:0<(row w' p).length:=ue.mpr (Gr.g.xa (by omega) hp)
  have rl:=h7 Gr.g p;have lr:((row w' p).map af).length=(row w' p).length:=aJ _;have e2:(0:Int)<(((row w' p).map af).length:Int):=by rw [lr];omega
  have m2:=gk (v3 / ((w'.map ai).length:Int)) (((row w' p).map af).length:Int) e2
  have at2:fU ((row w' p).map af) (v3 / ((w'.map ai).length:Int)%(((row w' p).map af).length:Int))=some (af ((row w' p).getD (v3 / ((w'.map ai).length:Int)%(((row w' p).map af).length:Int)).toNat 0)):=by
   have:=eW (ns:=row w' p) (p:=(v3 / ((w'.map ai).length:Int)%(((row w' p).map af).length:Int)).toNat) (by omega)
   rw [Int.toNat_of_nonneg m2.1] at this;exact this
  have qm:(row w' p).getD (v3 / ((w'.map ai).length:Int)%(((row w' p).map af).length:Int)).toNat 0∈row w' p:=ay (by omega)
  generalize (row w' p).getD (v3 / ((w'.map ai).length:Int)%(((row w' p).map af).length:Int)).toNat 0=o at at2 qm;refine ⟨_,rfl,_,rfl,_,fZ hp,_,rfl,_,rfl,⟨e1,by rw [lw];omega⟩,_,rfl,_,rfl,_,fZ hp,e2,_,at2,trivial,?_⟩
  have ho:o<w'.length:=Gr.g.rng _ _ qm;refine ⟨_,rfl,_,rfl,_,fZ ho,trivial,?_⟩;have po:p∈row w' o:=Gr.g.sym _ _ qm;have Qj:0<(row w' o).length:=zd po;have lo:((row w' o).map af).length=(row w' o).length:=aJ _;have e4:(0:Int)<(((row w' o).map af).length:Int):=by rw [lo];omega
  have e5:(((row w' o).idxOf p:Int)+1)%(((row w' o).map af).length:Int)=((((row w' o).idxOf p+1)%(row w' o).length:Nat):Int):=by rw [lo,Int.natCast_emod];rfl
  have Sf:fU ((row w' o).map af) ((((row w' o).idxOf p:Int)+1)%(((row w' o).map af).length:Int))=some (af (ae (row w' o) p)):=by
   rw [e5];exact eW (mJ _ Qj)
  refine ⟨_,rfl,_,rfl,_,rfl,_,rfl,_,rfl,_,rfl,rfl,b6 _,_,_,(bB po).1,(bB po).2.1,(bB po).2.2,_,rfl,e4,_,Sf,by show 3≤sizeLine;decide,trivial,?_⟩
  exact ⟨_,rfl,_,rfl,_,rfl,ns,1,rfl,λv4=>⟨v4,rfl,λv5=>⟨w',[p,o,ae (row w' o) p],v5,rfl,Gr.g,Gr.bnd,h3,bw,z6 Gr.g tri qm,λF R2 g B hl fl=>q F R2 g B (by omega) (by omega) fl⟩⟩⟩
 ·exact ⟨_,rfl,_,rfl,_,rfl,ns,1,rfl,λv4=>⟨v4,rfl,λv5=>⟨w',R',v5,rfl,Gr.g,Gr.bnd,h3,bw,Gr.full,λF R2 g B hl fl=>q F R2 g B (by omega) (by omega) fl⟩⟩⟩
def HW:cZ:=λds P=>∃(w:W),ds= [aM w]∧Good w∧1≤w.length∧w.length≤14∧P (.dN w)
theorem wR:FnOk P w Z.K mg base cE 6 T.d__law_web.f T.d__law_web.fd ["_law_turns"] (aV Z HW):=by
 have nd:=oP.nd;refine bo T.d__law_web.F oP [0] (by decide) (λds R h=>by obtain ⟨_,rfl,_⟩:=h;rfl) (λbz A outer s H E ds R hr h=>?_)
 have hu:=hr.units;refine ⟨_,(ao (aI (DS T.mkW (pX T) (hr.mono (by decide)) rfl T.mC T.m___init__b (ab (sr (NC:= ["_law_row"]) (src:= [none]) rfl (qN (au iA)) trivial (cx (aa 0)) (λ_ _ _=>(cw 0 (show (["_law_row"]:List Str).Nodup from by decide+kernel))) (λ_ _ _=>eT) (λ_ _ _=>(jw nG rfl T.B.list kv (ab (aa 0) ag)))) ag)))),?_⟩
 obtain ⟨w',rfl,g,h1,bw,q⟩:=h;exact ⟨_,rfl,jC (ρ:= [none]) ai ai w' _ (λy hy Y h=>⟨_,rfl,h⟩) rfl (small (by omega)) λaA=>⟨w',rfl,g,h1,bw,q⟩⟩
end mK
namespace Wb
structure fG (w:W) (R:List Nat):Prop where
 nd:R.Nodup
 len:3≤R.length
 tie:∀p∈R,ae R p∈row w p
theorem Disc.oV{w:W}{R:List Nat}{A:Nat×Nat→Prop}(D:Disc w R A)(g:Good w):fG w R:=⟨D.nd,D.len,λp hp=>g.sym _ _ (D.ring p hp).1⟩
section
variable {w:W} {R:List Nat}
def p9(l:List Nat)(a:Nat):List Nat:=l.drop (l.idxOf a+1)++l.take (l.idxOf a)
theorem oY(w:W)(R:List Nat)(i:Nat):withinL w R i=(p9 (row w (R.getD i 0)) (R.getD ((i+1)%R.length) 0)).take ((p9 (row w (R.getD i 0)) (R.getD ((i+1)%R.length) 0)).idxOf (R.getD (bE R i) 0)):=rfl
theorem Ay{l:List Nat}{a x:Nat}(ha:a∈l)(hx:x∈l)(ne:x≠a):x∈p9 l a:=by
 have:=(hZ l a).mem_iff.mpr hx
 rw [jK ha] at this
 rcases bQ.mp this with e|e
 ·exact absurd e ne
 ·exact e
theorem tM{l:List Nat}{a:Nat}(ha:a∈l):(p9 l a).length+1=l.length:=by
 have:=lK l a
 rw [jK ha,dY] at this;exact this
theorem fG.lt(T:fG w R)(g:Good w){x:Nat}(h:x∈R):x<w.length:=bu (T.tie x h)
theorem fG.next(T:fG w R){i:Nat}(hi:i<R.length):R.getD ((i+1)%R.length) 0∈row w (R.getD i 0):=by
 rw [←gT T.nd hi];exact T.tie _ (ay hi)
theorem fG.prev(T:fG w R)(g:Good w){i:Nat}(hi:i<R.length):R.getD (bE R i) 0∈row w (R.getD i 0):=by
 have:=T.tie _ (ay (fb hi))
 rw [f7 T.nd hi] at this;exact g.sym _ _ this
theorem fG.pn(T:fG w R){i:Nat}(hi:i<R.length):R.getD (bE R i) 0≠R.getD ((i+1)%R.length) 0:=by
 intro e;have len:=T.len
 have:=getD_inj T.nd (fb hi) (mJ _ (by omega)) e
 unfold bE at this
 by_cases c:i+1<R.length
 ·rw [kY c] at this
  split at this<;>omega
 ·rw [show i+1=R.length by omega,nE] at this
  split at this<;>omega
theorem fG.LJ(T:fG w R)(g:Good w){i:Nat}(hi:i<R.length):R.getD (bE R i) 0∈p9 (row w (R.getD i 0)) (R.getD ((i+1)%R.length) 0):=Ay (T.next hi) (T.prev g hi) (T.pn hi)
theorem fG.qc(T:fG w R)(g:Good w):R.length≤w.length:=by
 have:=aU T.nd (m:=List.range w.length) λx hx=>cm.mpr (T.lt g hx)
 rw [gG] at this;exact this
end
end Wb
namespace mK
open PySem L2 Wb
variable {P:Program} {w:World} {mg:Str→Option Value} {base:Heap} {Z:DC} (T:Txt Z mg)
theorem vx{R:List Nat}{i:Nat}(hi:i<R.length):fU (R.map af) ((i:Int)-1)=some (af (R.getD (bE R i) 0)):=by
 have lR:(R.map af).length=R.length:=aJ _;have lt:=fb hi;refine Gn (j:=bE R i) lR ?_ (by rw [eJ,aK,bq lt];rfl)
 unfold mU bE
 by_cases c:i=0
 ·rw [if_pos c,if_neg (by omega),if_pos (by omega)]
  congr 1
  omega
 ·rw [if_neg c,if_pos (by omega),if_pos (by omega)]
  congr 1
  omega
theorem Cz{R:List Nat}{i:Nat}(hi:i<R.length):fU (R.map af) (((i:Int)+1)%((R.map af).length:Int))=some (af (R.getD ((i+1)%R.length) 0)):=by
 have lR:(R.map af).length=R.length:=aJ _;have e:((i:Int)+1)%((R.map af).length:Int)=(((i+1)%R.length:Nat):Int):=by rw [lR,Int.natCast_emod];rfl
 rw [e];exact eW (mJ _ (by omega))
variable {P:Program} {w:World} {mg:Str→Option Value} {base:Heap} {Z:DC} (T:Txt Z mg)
theorem uM{α:Type}(l:List α)(i j:Nat)(h:i≤j)(hj:j≤l.length):cutD l (some (i:Int)) (some (j:Int))=(l.take j).drop i:=by
 unfold cutD
 have e1:HT.bx l.length 0 (some (i:Int))=i:=by
  simp only [HT.bx]
  split<;>omega
 have e2:HT.bx l.length l.length (some (j:Int))=j:=by
  simp only [HT.bx]
  split<;>omega
 rw [e1,e2,List.drop_take]
variable {P:Program} {w:World} {mg:Str→Option Value} {base:Heap} {Z:DC} (T:Txt Z mg)
theorem hV{α:Type}{f:α→D}{g:α→PyData}(h:∀a,(f a).py=some (g a)):∀l:List α,e6 (l.map f)=some (l.map g)
 | []=>rfl
 |a::l=>by
  have:=hV h l
  rw [lg,e6,h a,this];rfl
theorem ne_nil{l:List D}{ps:List PyData}{P:D→Prop}(h:e6 l=some ps)(hd:(PyData.list ps).depth≤64)(q:P (.bl (!l.isEmpty))):J6 (.lst l) (.lst []) P:=by
 refine ⟨.list ps, .list [],by rw [D.py,h];rfl,rfl,hd,?_⟩
 have:PyData.eqv (.list ps) (.list [])=l.isEmpty:=by
  cases l with
  |nil=>
   have:ps= []:=(Option.some.inj h).symm
   rw [this];decide
  |cons a l=>
   cases ps with
   |nil=>
    rw [e6] at h;cases e:a.py with
    |none=>rw [e] at h;cases h
    |some x=>
     rw [e] at h;cases e2:e6 l with
     |none=>rw [e2] at h;cases h
     |some y=>rw [e2] at h;cases h
   |cons b ps=>rw [PyData.eqv];rfl
 rw [if_pos rfl,this];exact q
theorem r9{α:Type}(l:List α)(h:0<l.length):cutD l none (some (-1))=l.dropLast:=by
 unfold cutD;have e1:HT.bx l.length 0 none=0:=rfl
 have e2:HT.bx l.length l.length (some (-1))=l.length-1:=by
  simp only [HT.bx]
  split<;>omega
 rw [e1,e2,List.drop_zero,List.dropLast_eq_take,Nat.sub_zero]
end mK
namespace L2
open PySem PySem.Spec PyProof.Rows
section
variable {Z:DC} {X:Cx} {md:List Nat} {rn:Nat} {e:Expr} {pos p2:Pos} {te:aS} {t:kn} {lo hi:Option Expr} {tl th:xu}
def Tr(te:aS)(tl th:xu):kn:=λρ P=>te ρ λx=>tl ρ λlo=>th ρ λhi=>match x with
 | .lst l=>P (cutD l lo hi)
 |_=>False
theorem uO(he:DE Z X e te)(hl:DO Z X lo tl)(hu:DO Z X hi th):DF Z X 1 (.Subscript e (.Slice lo hi none p2) pos) (Tr te tl th):=by
 refine (vt yQ he hl hu).imp ?_;rintro σ H Q ⟨G,ρ,P,s,en,h,q⟩;refine ⟨G,ρ,_,s,en,h,λd hd v G1 H1 x1 dv=>?_⟩;refine ⟨G1,ρ,_,x1.sub,en.mono x1.gg,hd,λl hl G2 H2 x2=>?_⟩;refine ⟨G2,ρ,_,x2.sub,(en.mono x1.gg).mono x2.gg,hl,λu hu G3 H3 x3=>?_⟩;have x:=(x1.trans x2).trans x3;have dv:=(dv.mono x2.gg).mono x3.gg;cases dv<;>first|exact hu.elim|skip
 rename_i h e
 refine ⟨_,_,rfl,cc.of (x3.sub _ _ h),λp hn=>?_⟩;obtain ⟨o1,o2,o3⟩:=oF x hn (wb e l u);exact q _ hu _ _ _ _ (x.side hn) o1 o2 o3
def J9(t:kn):dD:=λE ρ=>t ρ λds=>E.rt (.lst ds)
theorem xV(he:DF Z X rn e t):DSt Z X md rn (.Return (some e) pos) (J9 t):=(wZ he).imp λD σ H ⟨B,ρ,E,⟨G,fp,S⟩,h,M⟩=>by
 let F:Addr→Prop:=λb=>∃i,b∈fp i
 have s:=S.ex.sub
 have x0:Ext B.G₀ B.H₀ (plus G H F) H:=⟨S.ex.gg.trans (e9 s),fR s,S.ex.hh,λb hb hg=>by
  rw [gS (λ⟨i,hi⟩=>hb (S.nw i b hi).1)];exact S.ex.off b hb hg⟩
 refine ⟨plus G H F,ρ,_,fR s,⟨S.len,λi d h=>?_⟩,h,λds hd v f G' H' x o nd nw=>M.rt _ hd v f G' H' (x0.trans x) o nd λb hb=>⟨S.ex.hh.free (nw b hb).1,(nw b hb).2⟩⟩;obtain ⟨v,hv,o⟩:=S.at_ i d h;exact ⟨v,hv,o.dv (e9 s) λb hb u e=>by rw [jh ⟨i,hb⟩];exact e⟩
end
end L2
namespace mK
open PySem L2 Wb
variable {P:Program} {w:World} {mg:Str→Option Value} {base:Heap} {Z:DC} (T:Txt Z mg)
theorem oM(r:List Nat):(ai r).py=some (jV r):=by
 unfold ai jV;rw [D.py,hV (g:=nD) (λn=>rfl)];rfl
theorem BD(w:W):(aM w).py=some (oW w):=by
 unfold aM oW;rw [D.py,hV (g:=jV) oM];rfl
theorem DH{v w:W}{P:D→Prop}(h:P (.bl (decide (v=w)))):wd (aM v) (aM w) P:=by
 refine ⟨_,_,BD v,BD w,by have:=xT v;omega,?_⟩
 have:PyData.eqv (oW v) (oW w)=decide (v=w):=by
  by_cases e:v=w
  ·rw [decide_eq_true e];exact (uX v w).mpr e
  ·rw [decide_eq_false e]
   apply vN.mpr;exact λz=>e ((uX v w).mp z)
 rw [if_neg bY,this];exact h
theorem xY(a b:List Nat):PyData.eqv (jV a) (jV b)=decide (a=b):=by
 by_cases e:a=b
 ·rw [decide_eq_true e];exact (pK a b).mpr e
 ·rw [decide_eq_false e]
  apply vN.mpr;exact λz=>e ((pK a b).mp z)
theorem DD{v w:List Nat}{P:D→Prop}(h:P (.bl (decide (v=w)))):wd (ai v) (ai w) P:=by
 refine ⟨_,_,oM v,oM w,by have:=kz v;omega,?_⟩
 rw [if_neg bY,xY];exact h
theorem sj{v w:List Nat}{P:D→Prop}(h:P (.bl (!decide (v=w)))):J6 (ai v) (ai w) P:=by
 refine ⟨_,_,oM v,oM w,by have:=kz v;omega,?_⟩
 rw [if_pos rfl,xY];exact h
def FN:cZ:=λds P=>∃(l:List Nat)(x:Nat),ds= [ai l,af x]∧l.length≤100∧x∈l∧P (ai (bM l x))
theorem wU:FnOk P w Z.K mg base cE 1 T.d_begun_at.f T.d_begun_at.fd ["ring","p"] (aV Z FN):=by
 have nd:=oQ.nd;refine bo T.d_begun_at.F oQ [0,0,0] (by decide) (λds R h=>by obtain ⟨_,_,rfl,_⟩:=h;rfl) (λbz A outer s H E ds R hr h=>?_)
 have hu:=hr.units
 refine ⟨_,(ah (aE false 2 nd (lE (aa 0) (aa 1)))
   (ao (aI (aB bJ (bH (aa 0) (bA (aa 2)) bX) (bH (aa 0) bX (bA (aa 2))))))),?_⟩
 obtain ⟨l,x,rfl,h1,hx,q⟩:=h;have ll:(l.map af).length=l.length:=aJ _;have il:=fH.mpr hx;refine ⟨_,rfl,_,rfl,_,rfl,rfl,b6 _,_,_,(bB hx).1,(bB hx).2.1,(bB hx).2.2,trivial,?_⟩;have ca:cutD (l.map af) (some ((l.idxOf x:Nat):Int)) none=(l.drop (l.idxOf x)).map af:=by rw [dQ _ _ (by rw [ll];omega),lj]
 have cb:cutD (l.map af) none (some ((l.idxOf x:Nat):Int))=(l.take (l.idxOf x)).map af:=by rw [dR _ _ (by rw [ll];omega),lh]
 have lW:(cutD (l.map af) (some ((l.idxOf x:Nat):Int)) none).length+(cutD (l.map af) none (some ((l.idxOf x:Nat):Int))).length≤sizeLine:=by
  rw [ca,cb,aJ,aJ,eN,b8];exact small (by omega)
 have er:(.lst (cutD (l.map af) (some ((l.idxOf x:Nat):Int)) none++cutD (l.map af) none (some ((l.idxOf x:Nat):Int))):D)=ai (bM l x):=by rw [ca,cb];unfold ai bM;rw [dJ]
 rw [←er] at q;exact ⟨_,rfl,_,rfl,_,rfl,_,rfl,lW,q⟩
def yW:cZ:=λds P=>∃(w:W)(R:List Nat)(i:Nat),ds= [.dN w,ai R,af i]∧Good w∧w.length≤14∧fG w R∧i<R.length∧P (ai (withinL w R i))
theorem fv:FnOk P w Z.K mg base cE 2 T.d_within_at.f T.d_within_at.fd ["web","ring","i"] (kI Z 1 yW):=by
 have nd:=mB.nd;refine lJ 1 T.d_within_at.F mB [0,0,0,0] (by decide) (λds R h=>by obtain ⟨_,_,_,rfl,_⟩:=h;rfl) (λbz A outer s H E ds R hr h=>?_)
 have hu:=hr.units
 refine ⟨_,(ah (aE false 3 nd (az T.d_begun_at (wU T) hr (ab (bC (uN T.W (aa 0) T.m_turns.m (mj T) (hr.mono (by decide)) T.m_turns.b) (bC (aa 1) (aa 2))) (ab (bC (aa 1) (aB cA (aB bJ (aa 2) ar) (ax aO rfl T.B.len aN (ab (aa 1) ag)))) ag))))
   (ao (xV (uO (aa 3) (bA ar) (bA (lE (aa 3) (bC (aa 1) (aB gK (aa 2) ar)))))))),?_⟩
 obtain ⟨w',R',i,rfl,g,bw,Ti,hi,q⟩:=h;have lR:(R'.map af).length=R'.length:=aJ _;have h3:=Ti.len;have e0:(0:Int)<((R'.map af).length:Int):=by rw [lR];omega
 have Xw:=Ti.lt g (ay hi);have rl:=h7 g (R'.getD i 0);have nm:=Ti.next hi;refine ⟨_,rfl,w',rfl,w',rfl,bw,_,rfl,_,rfl,_,eW hi,_,fZ Xw,_,rfl,_,rfl,_,rfl,e0,_,Cz hi,row w' (R'.getD i 0),R'.getD ((i+1)%R'.length) 0,rfl,by omega,nm,trivial,?_⟩
 have et:=jK nm;have pm:=Ti.LJ g hi;have uE:R'.getD (bE R' i) 0∈bM (row w' (R'.getD i 0)) (R'.getD ((i+1)%R'.length) 0):=by rw [et];exact bV _ pm
 refine ⟨_,rfl,_,rfl,_,rfl,_,rfl,_,rfl,_,vx hi,rfl,b6 _,_,_,(bB uE).1,(bB uE).2.1,(bB uE).2.2,?_⟩
 have eb:(R'.getD ((i+1)%R'.length) 0==R'.getD (bE R' i) 0)=false:=by
  rw [beq_eq_false_iff_ne];exact (Ti.pn hi).symm
 have ei:(bM (row w' (R'.getD i 0)) (R'.getD ((i+1)%R'.length) 0)).idxOf (R'.getD (bE R' i) 0)=(p9 (row w' (R'.getD i 0)) (R'.getD ((i+1)%R'.length) 0)).idxOf (R'.getD (bE R' i) 0)+1:=by
  rw [et,vQ,eb];rfl
 have pl:=fH.mpr pm;have Yd:=tM nm
 have ef:(.lst (cutD ((bM (row w' (R'.getD i 0)) (R'.getD ((i+1)%R'.length) 0)).map af) (some (1:Int)) (some (((bM (row w' (R'.getD i 0)) (R'.getD ((i+1)%R'.length) 0)).idxOf (R'.getD (bE R' i) 0):Nat):Int))):D)=ai (withinL w' R' i):=by
  have:=uM (bM (row w' (R'.getD i 0)) (R'.getD ((i+1)%R'.length) 0)) 1 ((bM (row w' (R'.getD i 0)) (R'.getD ((i+1)%R'.length) 0)).idxOf (R'.getD (bE R' i) 0)) (by omega) (by rw [lK,ei];omega)
  rw [uL,show (some (1:Int))=some ((1:Nat):Int) from rfl,this,ei,et,List.take_succ_cons,oY];rfl
 rw [←ef] at q;exact q
end mK
namespace L2
open PySem PySem.Spec PyProof.Rows
theorem vw{α:Type}:∀l:List α,(List.range l.length).filterMap (l[·]?)=l
 | []=>rfl
 |a::l=>by
  rw [dY,List.range_succ_eq_map,vJ];show a::(((List.range l.length).map Nat.succ).filterMap ((a::l)[·]?))=a::l;rw [List.filterMap_map];exact congrArg (a::·) (vw l)
theorem jT{α β:Type}{f g:α→Option β}:∀{l:List α},(∀x∈l,f x=g x)→l.filterMap f=l.filterMap g
 | [],_=>rfl
 |a::l,h=>by
  rw [vJ,vJ,h a (bP ..),jT λx hx=>h x (bV _ hx)]
theorem tT(its:List Value):slicePick its.toArray none none (some (-1))=its.reverse.toArray:=by
 unfold slicePick
 congr 1
 have e:sliceRange (sliceBounds none none (some (-1)) its.toArray.size).1 (sliceBounds none none (some (-1)) its.toArray.size).2.1 (sliceBounds none none (some (-1)) its.toArray.size).2.2=(List.range its.length).map λk=>its.length-1-k:=by
  rw [b7];unfold sliceRange sliceBounds;simp only [Option.getD_some];have c:¬((-1:Int)>0):=by decide
  simp only [if_neg c]
  by_cases h:its.length=0
  ·rw [h];rfl
  ·rw [if_pos (by omega),show ((its.length:Int)-1- -1- -1-1) / (- -1)=(its.length:Int) by rw [show (- -1:Int)=1 from rfl,Int.ediv_one];omega]
   rw [ug];apply zg;intro k hk
   have:=cm.mp hk
   omega
 rw [e,List.filterMap_map];have p:=vw its.reverse;rw [pk] at p;rw [←p];apply jT;intro k hk;have hk:=cm.mp hk;rw [List.getElem?_reverse hk];simp
section
variable {X:Cx} {e k:Expr} {te tk:TE} {pos p2:Pos}
def Mb(K:PySem.W.Frag)(te tk:TE):TE:=λσ H Q=>te σ H λx H1=>tk σ H1 λc H2=>c= .int (-1)∧∃a xs,x= .ref a∧cc K H2 a xs∧∀p,H2 p=none→Q (.ref p) (upd H2 p (.lst xs.reverse))
theorem Ff(he:PE X e te)(hk:PE X k tk):PE X (.Subscript e (.Slice none none (some k) p2) pos) (Mb X.K te tk):=by
 intro pins s σ H Q I h;refine Subscript_ (thn (he pins s σ H _ I h) λv s1 ⟨x,H1,I1,r1,q1⟩=>?_);refine wpAny_Slice ?_;rw [evalPart_none];refine wpAny_pure ?_;refine wpAny_pure ?_;rw [evalPart_some];refine thn (hk pins s1 σ H1 _ I1 q1) λvk s3 ⟨c,H3,I3,rk,q3⟩=>?_;obtain ⟨rfl,a,xs,rfl,hx,q⟩:=q3;obtain ⟨t,rfl⟩:=rk;have I4:Inv X pins σ H3 {s3 with heap:=s3.heap.push {cls:= .type "slice",data:= .fields #[.none, .none, .int (-1) t]}}:=I3.kept (t':=s3.toks) λb ob q=>Heap.get?_push_of_some _ q
 cases r1;obtain ⟨its,r,ht,hz⟩:=I4.list hx;have hlen:=r.length;show wpAny (model X.prog X.w) X.A (subscriptTail e (.Slice none none (some k) p2) (.ref a) (.ref s3.heap.objs.size)) (EP X pins σ Q) X.xe {s3 with heap:=s3.heap.push {cls:= .type "slice",data:= .fields #[.none, .none, .int (-1) t]}}
 refine tail_any (ops:= [.ref a, .ref s3.heap.objs.size]) ht.isList.typeIs slot_list_getitem.lookup ?_ (by with_unfolding_all rfl)
 refine wpAny_getItem_list_slice ht.isList (Heap.IsSliceOf.new ..) .none .none (.int (-1) t) (by decide) ?_ (by rw [b7]<;>omega)
 rw [tT];refine ⟨.ref _,_,I4.laid (t':=s3.toks) (o:= .lst xs.reverse) (λb ob q=>Heap.get?_push_of_some _ q) (bh _) ?_,rfl,q _ (I4.hok.fresh (bh _))⟩;exact ⟨by rw [pk];exact hz,_,0,r.reverse,Heap.get?_push_size _ rfl⟩
end
section
variable {Z:DC} {X:Cx} {md:List Nat} {rn:Nat} {e e2 k:Expr} {es:List Expr} {pos p2 apos aR:Pos} {te tk tp:aS} {t u:kn}
def Ka(te tk:aS):aS:=λρ P=>te ρ λx=>∃l,x= .lst l∧tk ρ λc=>c= .int (-1)∧P (.lst l.reverse)
theorem Bb{G:Hp}:∀{vs:List V}{ds:List D},aq Z G vs ds→aq Z G vs.reverse ds.reverse
 |_,_, .nil=> .nil
 |_,_, .cons a as=>by
  rw [uf,uf];exact (Bb as).append (.cons a .nil)
theorem DV(he:DE Z X e te)(hk:DE Z X k tk)(eK:X.K=Z.K:=by rfl):DE Z X (.Subscript e (.Slice none none (some k) p2) pos) (Ka te tk):=by
 refine (Ff he hk).imp ?_;rintro σ H Q ⟨G,ρ,P,s,en,h,q⟩;refine ⟨G,ρ,_,s,en,h,?_⟩;rintro _ ⟨l,rfl,h⟩ v G1 H1 x1 dv;refine ⟨G1,ρ,_,x1.sub,en.mono x1.gg,h,?_⟩;rintro _ ⟨rfl,hp⟩ v2 G2 H2 x2 wo;cases wo;obtain ⟨p1,Gd,rfl,h1,e1⟩:=dv.hJ;have Kj:=e1.mono x2.gg;exact ⟨rfl,p1,Gd,rfl,cc.of (x2.hh _ _ (x1.sub _ _ h1)),λp hn=>q _ hp _ _ _ ((x1.trans x2).trans (.new x2.sub hn)) (.lst aw ((Bb Kj).mono (aQ (x2.sub.free hn) _)))⟩
def Gw(t u:kn):dD:=λE ρ=>t ρ λa=>u ρ λb=>E.rt (.tup [.lst a, .lst b])
theorem B4{x1}(ha:DF Z X 1 e t)(hb:DF Z X 1 e2 u)(hs:starEach [e,e2] X.env=(false,eval e X.env)::starEach [e2] X.env:=by rfl)(jA:starEach [e2] X.env=(false,eval e2 X.env)::starEach [] X.env:=by rfl):DSt Z X md 2 (.Return (some (.Tuple [e,e2] x1 p2)) pos) (Gw t u):=(wZ (Bw (dj ha (dj hb gL jA) hs))).imp λD σ H ⟨B,ρ,E,⟨G,fp,S⟩,h,M⟩=>by
 let F:Addr→Prop:=λb=>∃i,b∈fp i
 have s:=S.ex.sub
 have x0:Ext B.G₀ B.H₀ (plus G H F) H:=⟨S.ex.gg.trans (e9 s),fR s,S.ex.hh,λb hb hg=>by
  rw [gS (λ⟨i,hi⟩=>hb (S.nw i b hi).1)];exact S.ex.off b hb hg⟩
 have en:cC Z (plus G H F) σ ρ:=⟨S.len,λi d h=>by
  obtain ⟨v,hv,o⟩:=S.at_ i d h;exact ⟨v,hv,o.dv (e9 s) λb hb u e=>by rw [jh ⟨i,hb⟩];exact e⟩⟩
 refine ⟨plus G H F,ρ,_,fR s,en,h,λa ha v1 f1 G1 H1 x1 o1 td Lr=>?_⟩;refine ⟨G1,ρ,_,x1.sub,en.mono x1.gg,ha,λb hb v2 f2 G2 H2 x2 o2 qT Ls=>?_⟩;refine ⟨by show 2≤sizeLine;decide,λp hp=>?_⟩
 have x3:Ext G2 H2 (upd G2 p (.tup [v1,v2])) (upd H2 p (.tup [v1,v2])):= .new x2.sub hp
 have k1:∀c∈f1,upd H2 p (.tup [v1,v2]) c=H1 c:=λc hc=>by
  cases e:H1 c with
  |none=>exact absurd e (Lr c hc).2.1
  |some o=>exact x3.hh _ _ (x2.hh _ _ e)
 have k2:∀c∈f2,upd H2 p (.tup [v1,v2]) c=H2 c:=λc hc=>by
  cases e:H2 c with
  |none=>exact absurd e (Ls c hc).2.1
  |some o=>exact x3.hh _ _ e
 refine M.rt _ hb _ (f1++f2) _ _ (((x0.trans x1).trans x2).trans x3) (.inr (.inl ⟨by decide,p,[v1,v2],_,rfl,rfl,aw,?_⟩)) ?_ λc hc=>?_
 ·have:=fE.cons (R:=λv d f=>(GR d=true∧Own Z (upd G2 p (.tup [v1,v2])) (upd H2 p (.tup [v1,v2])) 1 v d f)∨(GR d=false∧Dv Z (upd G2 p (.tup [v1,v2])) v d∧f= [])) (.inl ⟨rfl,o1.keep (x2.gg.trans x3.gg) k1⟩) (fE.cons (.inl ⟨rfl,o2.keep x3.gg k2⟩) fE.nil)
  rw [j5] at this;exact this
 ·exact dX.mpr ⟨td,qT,λa ha b hb z=>(Lr a ha).2.1 (by rw [z];exact (Ls b hb).1)⟩
 ·rcases cq.mp hc with hc|hc
  ·obtain ⟨q1,q2,q3⟩:=Lr c hc
   exact ⟨x0.hh.free q1,by rw [k1 c hc];exact q2,x3.off c (dq x2.hh q2) (x2.off c q2 q3)⟩
  ·obtain ⟨q1,q2,q3⟩:=Ls c hc
   exact ⟨x0.hh.free (x1.hh.free q1),by rw [k2 c hc];exact q2,x3.off c q2 q3⟩
end
theorem eG.ok{P:Program}{w:World}{H:Hp}{h:Heap}{a:Addr}{b:Bool}{ns:List Int}(x:eG b a ns h):cu P w H h a (.ext (eG b a ns)):=by
 refine ⟨x,let ⟨o,_,_,_,ho,_⟩:=x;⟨o,ho⟩,λh1 h2 p k=>?_⟩;obtain ⟨o,es,ep,t,ho,r⟩:=p;exact ⟨o,es,ep,t,k o ho,r⟩
theorem qj.elems{P:Program}{w:World}{es:Array (Int×Value)}{ns:List Int}(i:qj es ns):ElemsOf (intKind P w) es.toList:=λe he=>by
 obtain ⟨k,t,rfl⟩:=i.1 e he;exact ⟨⟨k,by simp [intKind,Value.isInt],rfl⟩,rfl⟩
theorem u6:∀{es:List (Int×Value)}{ms:List Int},(∀e∈es,∃k t,e=(hashInt k,Value.int k t))→IntsAre (es.map (·.2)) ms→∀k,k∈ms↔∃e∈es,Value.isInt k e.2=true
 | [],_,_,h,k=>by cases h;simp
 |e::es,ms,ha,h,k=>by
  obtain ⟨j,t,rfl⟩:=ha e (bP ..);cases h with
  |cons n t' h=>
   have ih:=u6 (λe he=>ha e (bV _ he)) h k;rw [bQ,ih]
   constructor
   ·rintro (rfl| ⟨e,he,q⟩)
    ·exact ⟨_,bP ..,by simp [Value.isInt]⟩
    ·exact ⟨e,bV _ he,q⟩
   ·rintro ⟨e,he,q⟩
    rcases bQ.mp he with rfl|he
    ·left;simp [Value.isInt] at q;exact q.symm
    ·exact .inr ⟨e,he,q⟩
theorem qj.mem{P:Program}{w:World}{es:Array (Int×Value)}{ns:List Int}(i:qj es ns)(k:Int):k∈ns↔∃e∈es.toList,(intKind P w).is k e.2=true:=by
 obtain ⟨a,_,ms,b,c⟩:=i;rw [←c.mem_iff];exact u6 a b k
theorem u5:∀{vs:List Value}{ms:List Int},IntsAre vs ms→vs.length=ms.length
 |_,_, .nil=>rfl
 |_,_, .cons _ _ h=>congrArg (·+1) (u5 h)
theorem qj.size{es:Array (Int×Value)}{ns:List Int}(i:qj es ns):es.size=ns.length:=by
 obtain ⟨_,_,ms,b,c⟩:=i;rw [←c.length_eq,←u5 b,aJ,gd]
theorem _root_.PySem.fF.FJ{b:Bool}{o:Obj}{es:Array (Int×Value)}{ep:Nat}{t:SetTable}(S:fF b o es ep t):es.size≤306:=by
 have:=S.few
 rcases S.tok.few with h|h|h|h<;>omega
theorem eG.setOf{P:Program}{w:World}{h:Heap}{a:Addr}{b:Bool}{ns:List Int}(x:eG b a ns h):h.SetOf (intKind P w) a (λk=>decide (k∈ns)) ns.length:=by
 obtain ⟨o,es,ep,t,ho,S,i⟩:=x;refine ⟨o,es,ep,t,ho,S.ex,S.dat,i.elems,λk=>?_,?_,S.fits,i.size⟩
 ·rw [decide_eq_true_eq];exact i.mem k
 ·have:=S.FJ
  show es.size<4096;omega
def u4(ns:List Int)(k:Int):List Int:=if k∈ns then ns else ns++ [k]
section
variable {X:Cx}
theorem Inv.BJ{pins:List (Addr×Obj)}{σ:St}{H:Hp}{s:Shared}{a:Addr}{b:Bool}{ns:List Int}(I:Inv X pins σ H s)(h:H a=some (.ext (eG b a ns))):eG b a ns s.heap:=(I.hok a _ h).1
theorem Fg{p pos:Pos}(hg:Gl X "set")(hm:X.mg "set"=none):PE X (.Call (.Name "set" p) [] [] pos) (λσ H Q=>∀q,H q=none→Q (.ref q) (upd H q (.ext (eG (dM X.w) q [])))):=by
 intro pins s σ H Q I h;refine wpAny_Call_Name_kw (gI I hg hm (u:= .type "set") (by decide+kernel) ?_ (by decide) (by decide))
 refine PyProof.Rows.callWith_type rfl (PyProof.Rows.evalArgs_nil3 (v7 ?_));have hn:=I.hok.fresh (bh _);refine ⟨.ref s.heap.objs.size,_,I.laid (t':=s.toks) (λb o e=>Heap.get?_push_of_some _ e) (bh _) (o:= .ext (eG (dM X.w) s.heap.objs.size [])) (eG.ok ⟨_,_,_,_,Heap.get?_push_size _ rfl,fF.new X.w,?_⟩),rfl,h _ hn⟩;exact ⟨λe he=>by simp at he,j8,[],by simpa using IntsAre.nil, .refl _⟩
theorem Ap:OpR X (compareOp .NotIn) (λx y H Q=>∃k p b ns,x= .int k∧y= .ref p∧H p=some (.ext (eG b p ns))∧Q (.bl (!decide (k∈ns))) H):=by
 intro pins s σ H x y v u Q I rx ry h;obtain ⟨k,p,b,ns,rfl,rfl,hp,q⟩:=h;obtain ⟨t,rfl⟩:=rx;cases ry;exact wpAny_notInSet_of (knd:=intKind X.prog X.w) (k:=k) (by simp [intKind,Value.isInt]) rfl (I.BJ hp).setOf ⟨.bl _,H,I.tok _,rfl,q⟩
def LP(w:World):V→List V→Hp→VK→Prop:=λx vs H Q=>∃l b ns k,x= .ref l∧vs= [.int k]∧H l=some (.ext (eG b l ns))∧b=dM w∧ns.length≤300∧Q .aZ (upd H l (.ext (eG b l (u4 ns k))))
theorem ER:Dc X "set.add" (LP X.w):=by
 intro pins s σ H x vs v us Q I rx rv h;obtain ⟨l,b,ns,k,rfl,rfl,hl,rfl,hz,q⟩:=h;cases rx;obtain ⟨u,rfl,ru⟩:=rv.one;obtain ⟨tk,rfl⟩:=ru;obtain ⟨o,es,ep,t,ho,S,i⟩:=I.BJ hl;have hT:s.TypeIs (.ref l) "set":=⟨o,ho,S.ex.1⟩;refine wpAny_call_entry F.slot_set_add hT F.entry_set_add ?_ (F.args_set_add_2 _ _);unfold Builtin.«set.add» Builtin.Frozenset.oneOther;simp only [List.isEmpty_nil,bind_assoc];unfold Builtin.Frozenset.addrOf setAdd;refine wpAny_bind (wpAny_pure ?_)
 try dsimp only
 refine wpAny_bind (wpAny_pure ?_)
 try dsimp only
 refine wpAny_bind ?_;refine wpAny_holding ?_;have hk:(intKind X.prog X.w).is k (.int k tk)=true:=by simp [intKind,Value.isInt]
 refine wpAny_bind ((intKind X.prog X.w).pyHash hk ?_);refine xk (s:={s with toks:=s.toks+1}) ho S i.elems hk (by rw [i.size];omega) (λhm=>?_) λnm h' o' iK zy t' sb g6 S' pm=>?_
 ·show wpAny _ _ (ret Value.none) _ _ _
  have og:k∈ns:=(i.mem k).mpr hm;rw [u4,if_pos og] at q
  have e:upd H l (.ext (eG (dM X.w) l ns))=H:=by
   funext c
   by_cases z:c=l
   ·subst z;rw [aw];exact hl.symm
   ·rw [aC z]
  rw [e] at q;exact wpAny_pure ⟨_,rfl, .aZ,H,I.tok _,rfl,q⟩
 ·show wpAny _ _ (ret Value.none) _ _ _
  have og:k∉ns:=λz=>nm ((i.mem k).mp z);rw [u4,if_neg og] at q
  have i':qj iK (ns++ [k]):=by
   obtain ⟨a1,a2,ms,a3,a4⟩:=i;refine ⟨λe he=>?_,?_,?_⟩
   ·rcases cq.mp (pm.mem_iff.mp he) with h|h
    ·exact a1 e h
    ·rw [gF] at h;exact ⟨k,tk,h⟩
   ·rw [dX]
    refine ⟨a2,by simp,λx hx y hy z=>og ?_⟩
    rw [gF] at hy;rw [←hy,←z];exact hx
   ·have a5:IntsAre ((es.toList++ [((intKind X.prog X.w).hash k,Value.int k tk)]).map (·.2)) (ms++ [k]):=by
     rw [dJ];clear a4 pm;generalize es.toList.map (·.2)=vs at a3
     induction a3 with
     |nil=>exact .cons k tk .nil
     |cons n t _ ih=>exact .cons n t ih
    obtain ⟨Wr,b1,b2⟩:=sP (pm.map (·.2)) a5;exact ⟨Wr,b1,b2.trans (a4.append_right _)⟩
  have I':=I.write (h':=h') (t':=s.toks+1) (x:=l) (e:=l) (o:= .ext (eG (dM X.w) l (ns++ [k]))) (by rw [hl];trivial) (.inl rfl) (λb u hb e=>sb.extBut b u hb e) ⟨o',g6⟩ (eG.ok ⟨o',iK,zy,t',g6,S',i'⟩)
  exact wpAny_pure ⟨_,rfl, .aZ,_,I',rfl,q⟩
def Rh(r:V→List V→Hp→VK→Prop)(to:TE)(t:TA):TE:=λσ H Q=>to σ H λx H1=>(∃p b ns,x= .ref p∧H1 p=some (.ext (eG b p ns)))∧t σ H1 λxs H2=>r x xs H2 Q
variable {o e:Expr} {es:List Expr} {to:TE} {t:TA} {name:Str} {apos aR:Pos} {id:String} {r:V→List V→Hp→VK→Prop}
theorem Hz(pa:PlainAttrs "set")(slot:Slot "set" name id)(Ey:typeOf (.builtin id)=pure (.type "method_descriptor"))(hm:Dc X id r)(ho:PE X o to)(ha:PA X (e::es) t)
  (df:attributeBase o name X.env (eval o X.env)=eval o X.env:=by rfl)
  (g5:((backTo aR (starEach (e::es) X.env)).all (λx=>!x.1)&&(backToKw aR (keywordEach [] X.env)).all (λx=>x.1.isSome)
   &&decide ((e::es).length+([]:List Keyword).length+(if ([]:List Keyword).isEmpty then 0 else 1)<30))=true:=by rfl)
  (cG:(apos.endLine==aR.line)=true:=by rfl) (hs:starEach (e::es) X.env=(false,eval e X.env)::starEach es X.env:=by rfl) (dg:(backTo aR (starEach es X.env)).any (·.1)=false:=by rfl):
  PE X (.Call (.Attribute o name apos) (e::es) [] aR) (Rh r to t):=by
 intro pins s σ H Q I h;refine wpAny_Call_method_late df g5 cG rfl (thn (ho pins s σ H _ I h) λv s1 ⟨x,H1,I1,r1,ty,q1⟩=>?_);obtain ⟨p,b,ns,rfl,hp⟩:=ty;cases r1;obtain ⟨oo,_,_,_,OK,S,_⟩:=I1.BJ hp;refine ⟨"set",id,pa,slot,Ey,⟨oo,OK,S.ex.1⟩,λa ea=>?_,?_⟩
 ·cases ea;exact ⟨oo,OK,S.ex.2.1⟩
 have hA:=ha aR pins s1 σ H1 _ I1 q1;rw [hs] at hA ⊢;refine Calls.callWith_builtin (by show (false|| (backTo aR (starEach es X.env)).any (·.1))=false;rw [dg]<;>rfl) (Calls.evalArgs_plain ?_)
 exact thn hA λus s2 ⟨vs,H2,I2,r2,q2⟩=>hm pins s2 σ H2 (.ref p) vs (.ref p) us Q I2 rfl r2 q2
theorem uw(hc:X.calm=true):dB X (.builtin "sorted") (λxs H Q=>∃(p:Addr)(ns:List Int),xs= [.ref p]∧H p=some (.ext (eG (dM X.w) p ns))∧ns.length<64∧∀(q:Addr)(ms:List Int),H q=none→ms.Perm ns→ms.Pairwise (·≤·)→Q (.ref q) (upd H q (.lst (ms.map V.int)))):=by
 intro pins s σ H xs us Q I rv h;obtain ⟨p,ns,rfl,hp,hz,q⟩:=h;obtain ⟨u,rfl,ru⟩:=rv.one;cases ru;obtain ⟨o,es,ep,t,ho,S,i⟩:=I.BJ hp;obtain ⟨_,_,Yb,i1,i2⟩:=id i;refine yT (I.ok.hd hc) ho S i1 (by rw [i.size];exact hz) λh' tk c out e ms old le hg hI pm lV=>?_
 have fr:H c=none:=I.hok.fresh le;have cG:64≤sizeLine:=by decide
 have Er:=(pm.trans i2).length_eq;exact ⟨.ref c,_,I.laid (t':=tk) old le (o:= .lst (ms.map V.int)) ⟨by rw [aJ];omega,out.toList,e,jR hI,by simpa using hg⟩,rfl,q c ms fr (pm.trans i2) lV⟩
end
section
variable {Z:DC} {X:Cx} {B:Bs} {md:List Nat} {rn:Nat} {ρ:DN} {σ:St} {H G:Hp} {fp:Nat→List Addr} {a e k o:Expr} {ta te tk tp:aS} {pos apos aR p2:Pos}
def Nm(neg:Bool):fg:=λa b P=>∃k bb ns,a= .int k∧b= .set bb ns∧P (.bl (if neg=true then !decide (k∈ns) else decide (k∈ns)))
theorem Al:OpR X (compareOp .NotIn) (bK Z (Nm true)):=by
 refine Ap.imp ?_;rintro x y H Q ⟨G,a,b,P,s,da,db,⟨k,bb,ns,rfl,rfl,h⟩,q⟩;cases da;cases db with
 |set hp=>exact ⟨k,_,_,ns,rfl,rfl,s _ _ hp,q _ h _ G H (.refl s) (.bl _)⟩
def Gp(w:World):cZ:=λds P=>∃ns:List Int,ds= [.set (dM w) ns]∧ns.length<64∧∀ms:List Int,ms.Perm ns→ms.Pairwise (·≤·)→P (.lst (ms.map D.int))
theorem BV(hc:X.calm=true):dB X (.builtin "sorted") (jD Z (Gp X.w)):=by
 refine (uw hc).imp ?_;rintro xs H Q ⟨G,ds,P,s,dv,⟨ns,rfl,hl,hp⟩,q⟩;cases dv with
 |cons a as=>
  cases as;cases a with
  |set h=>
   refine ⟨_,ns,rfl,s _ _ h,hl,λp ms hn h1 h2=>?_⟩;exact q _ (hp ms h1 h2) _ _ _ (.new s hn) (.lst aw (.ints ms))
def Kc(w:World)(i:Nat):dD:=λE ρ=>E.nx (ρ.set i (some (.set (dM w) [])))
theorem D5(i:Nat){x:Str}{pos' p:Pos}(hN:X.N.Nodup)(hg:Gl X "set")(zP:X.mg "set"=none)(hm:md.getD i 0=99:=by rfl)(hi:X.N[i]? =some x:=by rfl)(hx:Loc X.env.scope x:=by first|exact Or.inl rfl|exact Or.inr rfl)(hs:swapsWith (.Call (.Name "set" p) [] [] p2) (some (.Name x pos')) pos.line X.env=pure false:=by rfl)
  (hf:X.fn x=true∨X.env.scope.names.lookup x=some .local:=by first|exact .inl rfl|exact .inr rfl|assumption):DSt Z X md rn (.Assign [.Name x pos'] (.Call (.Name "set" p) [] [] p2) pos) (Kc X.w i):=by
 refine (oK hN hi hx (Fg hg zP) hs hf).imp ?_;rintro D σ H ⟨B,ρ,E,⟨G,fp,S⟩,h,M⟩;intro c hc;have gc:G c=none:=S.ex.sub.free hc;have x:Ext G H G (upd H c (.ext (eG (dM X.w) c []))):=⟨.refl _,S.ex.sub.trans (aQ hc _),aQ hc _,λ_ _ z=>z⟩;refine M.nx _ h _ _ ⟨G,_,(S.grow x).FH hm (f:= [c]) (.inr (.inr ⟨c,_,rfl,aw,rfl, .inl ⟨rfl,_,[],rfl,rfl⟩⟩)) (by simp) (λb hb=>?_) λb hb j _ hj=>?_⟩
 ·rw [gF] at hb;subst hb
  exact ⟨S.ex.hh.free hc,(by rw [aw];exact λz=>nomatch z),gc⟩
 ·rw [gF] at hb;subst hb
  exact (S.nw j _ hj).2.1 hc
def JZ(w:World)(md:List Nat)(m:Bool)(i:Nat)(te:aS):dD:=λE ρ=>∃ns,ρ[i]? =some (some (.set (dM w) ns))∧te (AS md m ρ) λd=>∃k,d= .int k∧ns.length≤300∧E.nx (ρ.set i (some (.set (dM w) (u4 ns k))))
theorem D4(m:Bool)(i:Nat){x:Str}{px:Pos}(he:DE Z X e te)(hm:md.getD i 0=99:=by rfl)(hi:X.N[i]? =some x:=by rfl)(hv:qM X.env.scope x:=by first|exact Or.inl rfl|exact Or.inr (Or.inl rfl) |exact Or.inr (Or.inr rfl))(hd:(x==("__debug__":Str))=false:=by decide)(fm:(x==("__classdict__":Str))=false:=by decide)
  (df:attributeBase (.Name x px) "add" X.env (eval (.Name x px) X.env)=eval (.Name x px) X.env:=by rfl)
  (g5:((backTo aR (starEach [e] X.env)).all (λx=>!x.1)&&(backToKw aR (keywordEach [] X.env)).all (λx=>x.1.isSome)&&decide (([e]:List Expr).length+([]:List Keyword).length+(if ([]:List Keyword).isEmpty then 0 else 1)<30))=true:=by rfl)
  (cG:(apos.endLine==aR.line)=true:=by rfl) (hs:starEach [e] X.env=(false,eval e X.env)::starEach [] X.env:=by rfl) (dg:(backTo aR (starEach [] X.env)).any (·.1)=false:=by rfl)
  (jB:swapsWith (.Call (.Attribute (.Name x px) "add" apos) [e] [] aR) none pos.line X.env=pure false:=by rfl):
  DSt Z X md rn (.Expr (.Call (.Attribute (.Name x px) "add" apos) [e] [] aR) pos) (JZ X.w md m i te):=by
 refine (oJ (Hz PySem.F.plainAttrs_set PySem.F.slot_set_add PySem.F.type_set_add ER (pv i hi hv hd fm) (dj he gL hs) df g5 cG hs dg) jB).imp ?_;rintro D σ H ⟨B,ρ,E,⟨G,fp,S⟩,⟨ns,h1,h⟩,M⟩;obtain ⟨v0,Ez,o0⟩:=S.at_ i _ h1;rw [hm] at o0;obtain ⟨l,rfl,hl,_⟩:=o0.Js;refine ⟨_,Ez,⟨l,_,_,rfl,hl⟩,S.ev m h λd hd=>?_⟩;obtain ⟨k,rfl,hz,hn⟩:=hd;refine ⟨by cases m<;>trivial,λv G' H' S' x dv=>?_⟩
 cases dv;obtain ⟨v1,OT,o1⟩:=S'.at_ i _ h1;rw [Ez] at OT;cases OT;rw [hm] at o1;obtain ⟨l',e',T8,GK⟩:=o1.Js;cases e';refine ⟨l,_,ns,k,rfl,rfl,T8,rfl,hz,M.nx _ hn _ _ ⟨G',fp,S'.mut Ez (b:=l) (by rw [GK];simp) ?_⟩⟩
 rw [hm,GK];exact .inr (.inr ⟨l,_,rfl,aw,rfl, .inl ⟨rfl,_,_,rfl,rfl⟩⟩)
def Nl(md:List Nat)(i:Nat)(te:aS):dD:=λE ρ=>∃ds,ρ[i]? =some (some (.lst ds))∧te (dh md ρ) λd=>∃zs,d= .lst zs∧ds.length+zs.length≤sizeLine∧E.nx (ρ.set i (some (.lst (ds++zs))))
theorem GB(i:Nat){x:Str}{px:Pos}(he:DE Z X e te)(hm:md.getD i 0=1:=by rfl)(hi:X.N[i]? =some x:=by rfl)(hv:qM X.env.scope x:=by first|exact Or.inl rfl|exact Or.inr (Or.inl rfl) |exact Or.inr (Or.inr rfl))(hd:(x==("__debug__":Str))=false:=by decide)(fm:(x==("__classdict__":Str))=false:=by decide)
  (df:attributeBase (.Name x px) "extend" X.env (eval (.Name x px) X.env)=eval (.Name x px) X.env:=by rfl)
  (g5:((backTo aR (starEach [e] X.env)).all (λx=>!x.1)&&(backToKw aR (keywordEach [] X.env)).all (λx=>x.1.isSome)&&decide (([e]:List Expr).length+([]:List Keyword).length+(if ([]:List Keyword).isEmpty then 0 else 1)<30))=true:=by rfl)
  (cG:(apos.endLine==aR.line)=true:=by rfl) (hs:starEach [e] X.env=(false,eval e X.env)::starEach [] X.env:=by rfl) (dg:(backTo aR (starEach [] X.env)).any (·.1)=false:=by rfl)
  (jB:swapsWith (.Call (.Attribute (.Name x px) "extend" apos) [e] [] aR) none pos.line X.env=pure false:=by rfl):
  DSt Z X md rn (.Expr (.Call (.Attribute (.Name x px) "extend" apos) [e] [] aR) pos) (Nl md i te):=by
 refine (oJ (tH PySem.F.plainAttrs_list PySem.F.slot_list_extend PySem.F.type_list_extend Ae (pv i hi hv hd fm) (dj he gL hs) df g5 cG hs dg) jB).imp ?_;rintro D σ H ⟨B,ρ,E,⟨G,fp,S⟩,⟨ds,h1,h⟩,M⟩;obtain ⟨l,xs,_,_,e2,e3,_⟩:=S.one hm h1;refine ⟨_,e2,ty_list e3,S.ev false h λd hd=>⟨trivial,λv G' H' S' x dv=>?_⟩⟩;obtain ⟨zs,rfl,h2,h3⟩:=hd;obtain ⟨l',nz,nT,e1,ij,qP,bf,put⟩:=S'.one hm h1;cases e1;rw [e2] at ij;cases ij;cases dv with
 | @lst b ys _ hb dz=>
  exact ⟨l,b,nz,ys,rfl,rfl,qP,S'.ex.sub _ _ hb,by rw [bf.length,dz.length];exact h2,M.nx _ h3 _ _ ⟨G',fp,put _ _ (bf.append dz)⟩⟩
end
section
variable {Z:DC} {X:Cx} {md:List Nat} {rn:Nat} {elt t0 i0 t1 i1:Expr} {f0 f1:List Expr} {scope:Scope} {pos:Pos} {wi cz:fT} {g g1:cU} {tt b5:cN} {te:aS} {src:List (Option Nat)} {NC:List Str}
def I0(wi:fT)(g:cU)(tt:cN)(cz:fT)(g1:cU)(b5:cN)(te:aS)(src:List (Option Nat)):kn:=λρ P=>wi ρ λds=>gx g tt cz g1 b5 te ds (tV src ρ) [] λout=>P out
theorem Cq:∀σ H Q,sV Z 1 (I0 wi g tt cz g1 b5 te src) σ H Q→F3 (mX Z wi) (kH Z g) (liftT Z tt) (mX Z cz) (kH Z g1) (liftT Z b5) (cO Z te) src σ H Q:=by
 rintro σ H Q ⟨G,ρ,P,s,en,h,q⟩;refine ⟨G,ρ,_,s,en,h,λds hd J G1 H1 x1 it Ad hA=>?_⟩;refine ⟨λi m dE H2=>m=ds.length-i∧i≤ds.length∧∃ck acc,CS Z G1 H1 Ad ck acc dE H2∧gx g tt cz g1 b5 te (ds.drop i) ck acc λout=>P out,⟨_,rfl,b9 _,_,[], .begin x1.sub hA ((en.mono x1.gg).src src),hd⟩,?_⟩;rintro i m dE H2 ⟨rfl,hi,ck,acc,c,hl⟩
 by_cases b4:i<ds.length
 ·have c0:=c
  obtain ⟨G2,ys,s1,s2,s3,off,gA,jz,bf,Kk⟩:=c;obtain ⟨go,_,yld⟩:=it G2 H2 s1 s2 i;refine .inr ⟨go b4,λav H'=>∃aA bO,CS Z G1 H1 Ad aA bO av H'∧gx g tt cz g1 b5 te (ds.drop (i+1)) aA bO λout=>P out,λav H' n=>⟨ds.length-(i+1),by omega,rfl,b4,n⟩,λx H3 y=>?_⟩
  obtain ⟨G3,d,x3,Em,dv⟩:=yld x H3 b4 y;rw [iZ Em] at hl;refine ⟨G3,ck,d,_,x3.sub,Kk.mono x3.gg,dv,hl,λaT h1 dO nX=>?_⟩;refine ⟨G3,aT,_,x3.sub,nX,h1,λb hb G5 H5 x5=>?_⟩;have f9:=x3.trans x5;have oz:∀{G jt:Hp},Ext G2 H2 G jt→G Ad=none:=λx=>x.off Ad (by rw [jz];exact λz=>nomatch z) gA
  have je:∀{G jt:Hp},Ext G2 H2 G jt→∀b,H1 b≠none→G1 b=none→G b=none:=λx b h1 h2=>x.off b (dq s3 h1) (off b h1 h2);cases b with
  |false=>exact cy ⟨aT,acc,⟨G5,ys,s1.trans f9.gg,f9.sub,s3.trans f9.hh,je f9,oz f9,f9.hh _ _ jz,bf.mono f9.gg,nX.mono x5.gg⟩,by simpa using hb⟩
  |true=>
   refine cD ⟨G5,aT,_,x5.sub,nX.mono x5.gg,(by simpa using hb),λes KW J1 G6 H6 x6 yo=>?_⟩
   have x:=f9.trans x6;have c6:CS Z G6 H6 Ad aT acc dO H6→True:=λ_=>trivial
   refine ⟨λk m lu H7=>m=es.length-k∧k≤es.length∧∃(uj:DN)(kr:List D),(∃(G:Hp)(ys:List V),aG G6 G∧aG G H7∧aG H1 H7∧(∀b,H1 b≠none→G1 b=none→G b=none)∧G Ad=none∧H7 Ad=some (.lst ys)∧aq Z G ys kr∧cC Z G lu uj)∧
    lcW g1 b5 te (es.drop k) uj kr λck iX=>gx g tt cz g1 b5 te (ds.drop (i+1)) ck iX λout=>P out,
    ⟨_,rfl,b9 _,aT,acc,⟨G6,ys, .refl _,x.sub,s3.trans x.hh,je x,oz x,x.hh _ _ jz,bf.mono x.gg,(nX.mono x5.gg).mono x6.gg⟩,KW⟩,?_⟩
   rintro k m lu H7 ⟨rfl,hk,uj,kr,⟨G7,xl,a1,a2,a3,a4,a5,a6,a7,a8⟩,wB⟩;have Ks:aG G1 G6:=s1.trans x.gg
   by_cases sN:k<es.length
   ·obtain ⟨Kv,_,Ge⟩:=yo G7 H7 a1 a2 k
    refine .inr ⟨Kv sN,λav H'=>∃(aA:DN)(bO:List D),(∃(G:Hp)(ys:List V),aG G6 G∧aG G H'∧aG H1 H'∧(∀b,H1 b≠none→G1 b=none→G b=none)∧G Ad=none∧H' Ad=some (.lst ys)∧aq Z G ys bO∧cC Z G av aA)∧
     lcW g1 b5 te (es.drop (k+1)) aA bO λck iX=>gx g tt cz g1 b5 te (ds.drop (i+1)) ck iX λout=>P out,λav H' n=>⟨es.length-(k+1),by omega,rfl,sN,n⟩,λy H8 hy=>?_⟩
    obtain ⟨G8,d8,x8,KQ,Kh⟩:=Ge y H8 sN hy;rw [iZ KQ] at wB;refine ⟨G8,uj,d8,_,x8.sub,a8.mono x8.gg,Kh,wB,λxt h9 XA wq=>?_⟩;refine ⟨G8,xt,_,x8.sub,wq,h9,λb hb C3 C4 t5=>?_⟩;have xx:=x8.trans t5;have oA:∀{G jt:Hp},Ext G7 H7 G jt→G Ad=none:=λx=>x.off Ad (by rw [a6];exact λz=>nomatch z) a5
    have oB:∀{G jt:Hp},Ext G7 H7 G jt→∀b,H1 b≠none→G1 b=none→G b=none:=λx b h1 h2=>x.off b (dq a3 h1) (a4 b h1 h2);cases b with
    |false=>exact cy ⟨xt,kr,⟨C3,xl,a1.trans xx.gg,xx.sub,a3.trans xx.hh,oB xx,oA xx,xx.hh _ _ a6,a7.mono xx.gg,wq.mono t5.gg⟩,by simpa using hb⟩
    |true=>
     refine cD ⟨C3,xt,_,t5.sub,wq.mono t5.gg,(by simpa using hb),λd' lT v Jz Gj Gb D6=>?_⟩
     have xz:=xx.trans Gb;refine ⟨xl,xz.hh _ _ a6,by rw [a7.length];exact lT.1,xt,_,⟨Jz,xl++ [v],a1.trans xz.gg,λb o e=>?_,λb o e=>?_,oB xz,oA xz,aw,(a7.mono xz.gg).snoc D6,(wq.mono t5.gg).mono Gb.gg⟩,lT.2⟩
     ·rw [aC (aP e (oA xz))];exact xz.sub _ _ e
     ·rw [aC (aP e hA)];exact (a3.trans xz.hh) _ _ e
   ·have e:es.drop k= []:=ub (by omega)
    rw [e] at wB;exact .inl ⟨(yo G7 H7 a1 a2 k).2.1 (by omega),uj,kr,⟨G7,xl,Ks.trans a1,a2,a3,a4,a5,a6,a7,a8⟩,wB⟩
 ·have e:ds.drop i= []:=ub (by omega)
  rw [e] at hl;obtain ⟨G2,ys,s1,s2,s3,off,gA,jz,bf,en⟩:=c;refine .inl ⟨(it G2 H2 s1 s2 i).2.1 (by omega),q _ hl (.ref Ad) [Ad] G2 H2 ⟨x1.gg.trans s1,s2,x1.hh.trans s3,λb hb hg=>off b (dq x1.hh hb) (x1.off b hb hg)⟩ (.inl ⟨Ad,ys,acc,[],rfl,rfl,jz,rfl,bf.own⟩) (by simp) λb hb=>?_⟩
  have:b=Ad:=by simpa using hb
  subst this;exact ⟨x1.hh.free hA,(by rw [jz];exact λz=>nomatch z),gA⟩
theorem zu(i:Nat){x:Str}{px f6:Pos}(hc:X.calm=true)(hN:X.N.Nodup)(c:bU X scope)(dF:cF scope X.N src NC)(hi:DI Z X t0 i0 wi)
  (hg:∀ex s H,DG Z (b0 X scope NC ex s H) t0 g) (ht:∀ex s H,uk Z (b0 X scope NC ex s H) f0 tt) (qR:∀ex s H,DI Z (b0 X scope NC ex s H) t1 i1 cz) (zM:∀ex s H,DG Z (b0 X scope NC ex s H) t1 g1)
  (zU:∀ex s H,uk Z (b0 X scope NC ex s H) f1 b5) (he:∀ex s H,DE Z (b0 X scope NC ex s H) elt te)
  (jB:swapsWith (.ListComp elt [⟨t0,i0,f0,0⟩,⟨t1,i1,f1,0⟩] scope pos) (some (.Name x px)) f6.line X.env=pure true:=by rfl) (hm:md.getD i 0=1:=by rfl) (kD:X.N[i]? =some x:=by rfl) (hx:Loc X.env.scope x:=by first|exact Or.inl rfl|exact Or.inr rfl)
  (hf:X.fn x=true∨X.env.scope.names.lookup x=some .local:=by first|exact .inl rfl|exact .inr rfl|assumption)
  (hs:∀x,foldedSetIterable i0 X.env x=pure x:=by intro _;rfl) (uA:∀env x,foldedSetIterable i1 env x=pure x:=by intro _ _;rfl):
  DSt Z X md rn (.Assign [.Name x px] (.ListComp elt [⟨t0,i0,f0,0⟩,⟨t1,i1,f1,0⟩] scope pos) f6) (DK md i (I0 wi g tt cz g1 b5 te src)):=by
 refine (tK hc hN kD hx c dF hi hg ht qR zM zU he jB hf hs uA).imp ?_;rintro D σ H ⟨B,ρ,E,⟨G,fp,S⟩,h,M⟩;exact Cq σ H _ (pU hm S h M)
end
section
variable {Z:DC} {X:Cx}
end
section
variable {Z:DC} {X:Cx}
def Dq:cZ:=λds P=>∃ns:List (Nat×Nat),ds= [.lst (ns.map pairD)]∧ns.length<64∧∀ms:List (Nat×Nat),ms.Perm ns→ms.Pairwise Wb.lexLe→P (.lst (ms.map pairD))
theorem zk(hu:X.A.units+64<cLine):dB X (.builtin "sorted") (jD Z Dq):=by
 refine (uv hu).imp ?_;rintro xs H Q ⟨G,ds,P,s,dv,⟨ns,rfl,hl,hp⟩,q⟩;cases dv with
 |cons a as=>
  cases as;cases a with
  | @lst p nz ds h e=>
   obtain ⟨L,rfl,h2,h3⟩:=uV e;have hL:L.length=ns.length:=by rw [←h2];simp
   refine ⟨_,L,rfl,cc.of (s _ _ h),λp hp=>s _ _ (h3 p hp),by omega,λp M hn m1 m2=>?_⟩
   have pm:(M.map (·.2)).Perm ns:=by rw [←h2];exact m1.map _
   have hM:BS (upd G p (.lst (M.map λe=>V.ref e.1))) M:=λx hx=>aQ (s.free hn) _ _ _ (h3 x (m1.mem_iff.mp hx));exact q _ (hp _ pm m2) _ _ _ (.new s hn) (.lst aw hM.dv)
end
end L2
namespace Wb
section
variable {α:Type}
open Classical in
noncomputable def num(P:α→Prop)(l:List α):Nat:=(l.filter λx=>decide (P x)).length
theorem bI(P:α→Prop)(a:α)(l:List α):(P a→num P (a::l)=num P l+1)∧(¬P a→num P (a::l)=num P l):=by
 unfold num
 constructor
 ·intro h;rw [List.filter_cons_of_pos (by simpa using h)];rfl
 ·intro h;rw [List.filter_cons_of_neg (by simpa using h)]
theorem dS{P Q:α→Prop}:∀{l:List α},(∀x∈l,P x↔Q x)→num P l=num Q l
 | [],_=>rfl
 |a::l,h=>by
  have ih:=dS (P:=P) (Q:=Q) (l:=l) λx hx=>h x (bV _ hx)
  by_cases c:P a
  ·rw [(bI P a l).1 c,(bI Q a l).1 ((h a (bP ..)).mp c),ih]
  ·rw [(bI P a l).2 c,(bI Q a l).2 (λz=>c ((h a (bP ..)).mpr z)),ih]
theorem gJ{P Q:α→Prop}:∀{l:List α},(∀x∈l,P x→Q x→False)→num (λx=>P x∨Q x) l=num P l+num Q l
 | [],_=>rfl
 |a::l,h=>by
  have ih:=gJ (P:=P) (Q:=Q) (l:=l) λx hx=>h x (bV _ hx)
  by_cases c:P a
  ·have nq:¬Q a:=λz=>h a (bP ..) c z
   rw [(bI _ a l).1 (Or.inl c),(bI P a l).1 c,(bI Q a l).2 nq,ih];omega
  ·by_cases d:Q a
   ·rw [(bI _ a l).1 (Or.inr d),(bI P a l).2 c,(bI Q a l).1 d,ih];omega
   ·rw [(bI _ a l).2 (λz=>z.elim c d),(bI P a l).2 c,(bI Q a l).2 d,ih]
theorem jc{P:α→Prop}{l:List α}(h:∀x∈l,¬P x):num P l=0:=by
 unfold num;rw [List.filter_eq_nil_iff.mpr (by simpa using h)];rfl
theorem kK{a:α}:∀{l:List α},l.Nodup→a∈l→num (λx=>x=a) l=1
 | [],_,h=>by cases h
 |b::l,nd,h=>by
  obtain ⟨n1,n2⟩:=fJ.mp nd
  by_cases c:b=a
  ·subst c
   rw [(bI (λx=>x=b) b l).1 rfl,jc (P:=λx=>x=b) λx hx e=>n1 (by rw [←e];exact hx)]
  ·rw [(bI (λx=>x=a) b l).2 c,kK n2 ((bQ.mp h).resolve_left λz=>c z.symm)]
theorem ou:∀{S l:List α},S.Nodup→l.Nodup→(∀x∈S,x∈l)→num (λx=>x∈S) l=S.length
 | [],l,_,_,_=>jc λx _ h=>by cases h
 |a::S,l,ns,nl,h=>by
  obtain ⟨n1,n2⟩:=fJ.mp ns;have e:num (λx=>x∈a::S) l=num (λx=>x=a∨x∈S) l:=dS λx _=>bQ;rw [e,gJ (P:=λx=>x=a) (Q:=λx=>x∈S) (λx _ h1 h2=>n1 (by rw [←h1];exact h2)),kK nl (h a (bP ..)),ou n2 nl λx hx=>h x (bV _ hx),dY]
  omega
end
theorem nJ(w:W)(A:Nat×Nat→Prop):cnt w A=num A (fj w):=rfl
theorem yL{l:List Nat}(nd:l.Nodup){P:Nat→Prop}(h:∀x∈l,P x→P (ae l x)){a:Nat}(ha:a∈l)(pa:P a):∀x∈l,P x:=by
 have pos:0<l.length:=zd ha;have ia:=fH.mpr ha
 have key:∀k,P (l.getD ((l.idxOf a+k)%l.length) 0):=by
  intro k
  induction k with
  |zero=>
   rw [Nat.add_zero,kY ia,aK,bq ia]
   have:l[l.idxOf a]=a:=gE ia
   show P (l[l.idxOf a]);rw [this];exact pa
  |succ k ih=>
   have b4:(l.idxOf a+k)%l.length<l.length:=mJ _ pos
   have:=h _ (ay b4) ih
   rw [gT nd b4] at this;rw [show l.idxOf a+(k+1)=l.idxOf a+k+1 by omega]
   rw [Nat.mod_add_mod] at this;exact this
 intro x hx;have ix:=fH.mpr hx
 have:=key (l.idxOf x+l.length-l.idxOf a)
 rw [show l.idxOf a+(l.idxOf x+l.length-l.idxOf a)=l.idxOf x+l.length by omega,Nat.add_mod_right,kY ix,aK,bq ix] at this
 have e:l[l.idxOf x]=x:=gE ix;have this:P (l[l.idxOf x]):=this;rw [e] at this;exact this
section
variable {w:W} {R:List Nat} {A:Nat×Nat→Prop}
theorem Disc.closed(g:Good w)(D:Disc w R A){p q:Nat}(hp:p∉R)(h:A (p,q)):∀r∈row w p,A (p,r):=by
 refine yL (g.nod p) (P:=λr=>A (p,r)) (λx hx a=>?_) (D.dart _ h) h;have s:=(D.sym p x hx (λz=>hp z.1) (λz=>hp (by rw [z.2];exact bc z.1))).mp a
 exact (D.face (x,p) (g.sym _ _ hx)).mp s
def cI(R:List Nat)(A:Nat×Nat→Prop)(p:Nat):Prop:=p∉R∧∃q,A (p,q)
noncomputable def kE(w:W)(R:List Nat)(A:Nat×Nat→Prop):Nat:=num (cI R A) (List.range w.length)
theorem nH(g:Good w)(B:kj w)(D:Disc w R A){i j:Nat}(uz:i<j)(hj:j<R.length)(h:R.getD j 0∈withinL w R i):
  ∃S:Nat×Nat→Prop,Disc w ((R.take (j+1)).drop i) (λd=>A d∧S d)∧Disc w (R.drop j++R.take (i+1)) (λd=>A d∧¬S d):=by
 have hi:i<R.length:=by omega
 have hw:=(cY g D hi).mp h
 have hB:(R.drop (i+1)).take (j-i-1)≠ []:=by
  intro e;have e:=congrArg List.length e;simp only [b8,eN,pC] at e;have e:j=i+1:=by omega
  refine oX g D hi ?_;rw [kY (by omega),←e];exact h
 have hC:R.drop (j+1)++R.take i≠ []:=by
  intro e;have e:=congrArg List.length e;simp only [cj,b8,eN,pC] at e;refine hw.2 ?_;unfold bE;rw [if_pos (by omega),show j=R.length-1 by omega]
 rw [KI uz hj,KJ uz hj];have s3:=xg uz hj;generalize hP:R.take i=P at*;generalize hp:R.getD i 0=p at*;generalize XW:(R.drop (i+1)).take (j-i-1)=BB at*;generalize hq:R.getD j 0=q at*;generalize XX:R.drop (j+1)=CC at*;have D0:Disc w (P++p::(BB++q::CC)) A:=s3▸D
 have D1:Disc w (p::(BB++q::(CC++P))) A:=by
  have:=D0.AB
  simpa using this
 have td:=D1.nd;have e1:p::(BB++q::(CC++P))=(p::BB)++ [q]++(CC++P):=by simp
 have Pr:(p::(BB++ [q])).Nodup:=by
  rw [e1] at td
  have:=(dX.mp td).1
  simpa using this
 have bl:1≤BB.length:=ue.mpr hB
 have tie:∀x∈p::(BB++ [q]),ae (p::(BB++ [q])) x∈row w x:=λx hx=>by
  have hx:x∈p::BB∨x=q:=by simpa [or_assoc] using hx
  rcases hx with hx|rfl
  ·have:=nk (a:=p::BB) (z:=q) (b:=CC++P) (by rw [←e1];exact td) hx
   rw [←e1] at this;rw [show p::(BB++ [q])=(p::BB)++ [q] by simp,←this]
   exact g.sym _ _ (D1.ring x (by rw [e1];exact dW _ (dW _ hx))).1
  ·rw [cM Pr]
   exact g.sym _ _ (D.dart _ hw.1)
 obtain ⟨S,bd⟩:=B.ring g Pr (by simp;omega) tie
 by_cases c:S (ae (p::(BB++q::(CC++P))) p,p)
 ·exact ⟨S,parted g D1 rfl hB hC hw.1 bd c⟩
 ·exact ⟨λd=>¬S d,parted g D1 rfl hB hC hw.1 bd.neg c⟩
variable {v m:Nat} {y:Nat→Nat}
def xD(v:Nat)(y:Nat→Nat)(k:Nat)(d:Nat×Nat):Prop:=d=(y k,v)∨d=(v,y (k+1))∨d=(y (k+1),y k)
theorem xD.cnt(g:Good w)(D:Disc w R A)(F:At w R v m y){k:Nat}(hk:k<m):num (xD v y k) (fj w)=3:=by
 have nd:=nN g;have a:=F.yi g D k hk;have b:=(F.yA g D hk).2.2;have n0:=F.ne g (k:=k) (by omega)
 have n1:=F.ne g (k:=k+1) (by omega)
 have e:num (xD v y k) (fj w)=num (λd=>d=(y k,v)∨(d=(v,y (k+1))∨d=(y (k+1),y k))) (fj w):=rfl;rw [e,gJ (P:=λd=>d=(y k,v)) (Q:=λd=>d=(v,y (k+1))∨d=(y (k+1),y k)),gJ (P:=λd=>d=(v,y (k+1))) (Q:=λd=>d=(y (k+1),y k)),kK nd (hE.mpr (D.dart _ a.1)),kK nd (hE.mpr (D.dart _ a.2)),kK nd (hE.mpr (D.dart _ b))]
 ·rintro x _ rfl h
  exact n1 (Prod.mk.inj h).1.symm
 ·rintro x _ rfl (h|h)
  ·exact n0 (Prod.mk.inj h).1
  ·exact n0 (Prod.mk.inj h).2.symm
theorem bS.cnt(g:Good w)(D:Disc w R A)(F:At w R v m y):∀j,j≤m→num (bS v j y) (fj w)=3*j
 |0,_=>jc λx _ ⟨k,hk,_⟩=>by omega
 |j+1,hj=>by
  have e:num (bS v (j+1) y) (fj w)=num (λd=>bS v j y d∨xD v y j d) (fj w):=dS λd _=>by
   constructor
   ·rintro ⟨k,hk,h⟩
    by_cases c:k=j
    ·subst c;exact .inr h
    ·exact .inl ⟨k,by omega,h⟩
   ·rintro (⟨k,hk,h⟩ |h)
    ·exact ⟨k,by omega,h⟩
    ·exact ⟨j,by omega,h⟩
  have inj:=F.fan.inj;rw [e,gJ,bS.cnt g D F j (by omega),xD.cnt g D F (by omega)]
  ·omega
  ·rintro x _ ⟨k,hk,h⟩ h'
   have ne:∀i,i≤m→y i≠v:=λi hi=>F.ne g hi
   rcases h with rfl|rfl|rfl<;>rcases h' with h'|h'|h'
   ·have:=inj _ _ (by omega) (by omega) (Prod.mk.inj h').1;omega
   ·exact ne k (by omega) (Prod.mk.inj h').1
   ·exact ne j (by omega) (Prod.mk.inj h').2.symm
   ·exact ne j (by omega) (Prod.mk.inj h').1.symm
   ·have:=inj _ _ (by omega) (by omega) (Prod.mk.inj h').2;omega
   ·exact ne (j+1) (by omega) (Prod.mk.inj h').1.symm
   ·exact ne k (by omega) (Prod.mk.inj h').2
   ·exact ne (k+1) (by omega) (Prod.mk.inj h').1
   ·have:=inj _ _ (by omega) (by omega) (Prod.mk.inj h').2;omega
theorem vD(g:Good w)(D:Disc w R A)(F:At w R v 1 y)(hR:R= [y 0,y 1,v])(d:Nat×Nat)(h:A d):bS v 1 y d:=by
 apply Classical.byContradiction;intro hn;have nd:=D.nd;have s0:ae R (y 0)=y 1:=by rw [hR];exact bF (a:= []) (by rw [hR] at nd;exact nd)
 have s1:ae R (y 1)=v:=F.pv;have s2:ae R v=y 0:=F.nx.symm;have m0:y 0∈R:=by rw [hR];simp
 have m1:y 1∈R:=by rw [hR];simp
 have m2:v∈R:=F.vm;have mR:∀p∈R,p=y 0∨p=y 1∨p=v:=λp hp=>by rw [hR] at hp;simpa using hp
 have t0:bS v 1 y (y 0,v):=⟨0,by omega, .inl rfl⟩
 have t1:bS v 1 y (v,y 1):=⟨0,by omega, .inr (.inl rfl)⟩
 have t2:bS v 1 y (y 1,y 0):=⟨0,by omega, .inr (.inr rfl)⟩
 have tr:∀p q,bS v 1 y (p,q)→q∈R∧p=ae R q:=by
  rintro p q ⟨k,hk,h⟩
  have:k=0:=by omega
  subst this
  rcases h with h|h|h<;>obtain ⟨rfl,rfl⟩:=Prod.mk.inj h
  ·exact ⟨m2,s2.symm⟩
  ·exact ⟨m1,s1.symm⟩
  ·exact ⟨m0,s0.symm⟩
 have rev:∀p q,A (p,q)→¬bS v 1 y (p,q)→A (q,p)∧¬bS v 1 y (q,p):=λp q a n=>by
  have n1:¬(p∈R∧q=ae R p):=λz=>(D.ring p z.1).2.2 (by rw [←z.2];exact a)
  have n2:¬(q∈R∧p=ae R q):=by
   rintro ⟨hq,rfl⟩
   rcases mR q hq with rfl|rfl|rfl
   ·rw [s0] at n;exact n t2
   ·rw [s1] at n;exact n t1
   ·rw [s2] at n;exact n t0
  refine ⟨(D.sym p q (D.dart _ a) n1 n2).mp a,λt=>?_⟩;exact n1 (tr _ _ t)
 have all:∀p q,A (p,q)→¬bS v 1 y (p,q)→∀r∈row w p,A (p,r)∧¬bS v 1 y (p,r):=λp q a n=>by
  refine yL (g.nod p) (P:=λr=>A (p,r)∧¬bS v 1 y (p,r)) (λx hx z=>?_) (D.dart _ a) ⟨a,n⟩;obtain ⟨z1,z2⟩:=rev p x z.1 z.2;have hd:aF w (x,p):=g.sym _ _ hx;exact ⟨(D.face _ hd).mp z1,λt=>z2 ((F.Jx g D hd).mpr t)⟩
 obtain ⟨p,q⟩:=d
 have go:∀r,Reach w p r→∀s∈row w r,A (r,s)∧¬bS v 1 y (r,s):=by
  intro r hr
  induction hr with
  |refl=>exact all p q h hn
  | @step b c _ hc ih=>
   obtain ⟨a,n⟩:=ih c hc;obtain ⟨a',n'⟩:=rev _ _ a n;exact all c b a' n'
 have hp:p<w.length:=bu (D.dart _ h);have hv:v<w.length:=bu (F.fan.mem 0 (by omega))
 have hr:Reach w p v:=((g.con p hp).symm g.sym).trans (g.con v hv);exact (go v hr (y 1) (F.fan.mem 1 (by omega))).2 t1
theorem rY(w:W)(A S:Nat×Nat→Prop):cnt w A=cnt w (λd=>A d∧S d)+cnt w (λd=>A d∧¬S d):=by
 rw [nJ,nJ,nJ,←gJ (λx _ h h'=>h'.2 h.2)];refine dS λx _=>?_
 by_cases c:S x
 ·exact ⟨λa=> .inl ⟨a,c⟩,λz=>z.elim (·.1) (·.1)⟩
 ·exact ⟨λa=> .inr ⟨a,c⟩,λz=>z.elim (·.1) (·.1)⟩
theorem Kl(g:Good w)(B:kj w):∀(n:Nat){R:List Nat}{A:Nat×Nat→Prop},Disc w R A→cnt w A≤n→cnt w A+6=6*kE w R A+3*R.length:=by
 intro n
 induction n with
 |zero=>
  intro R A D hn;obtain ⟨p,hp⟩:∃p,p∈R:=⟨R.getD 0 0,ay (by have:=D.len;omega)⟩
  have a:=(D.ring p hp).2.1
  have:=v9 (w:=w) (A:=A) (A':=λ_=>False) (λ_ z=>z.elim) (D.dart _ a) a id
  omega
 |succ n ih=>
  intro R A D hn;have len:=D.len
  by_cases c:∃i,i<R.length-1∧R.getD (R.length-1) 0∈withinL w R i
  ·obtain ⟨i,hi,hc⟩:=c
   obtain ⟨S,E1,E2⟩:=nH g B D hi (by omega) hc
   have sp:=rY w A S;have x1:=ih E1;have x2:=ih E2
   have p1:0<cnt w (λd=>A d∧S d):=by
    obtain ⟨p,hp⟩:∃p,p∈(R.take (R.length-1+1)).drop i:=⟨_,ay (i:=0) (by have:=E1.len;omega)⟩
    have a:=(E1.ring p hp).2.1
    have:=v9 (w:=w) (A:=λd=>A d∧S d) (A':=λ_=>False) (λ_ z=>z.elim) (E1.dart _ a) a id
    omega
   have p2:0<cnt w (λd=>A d∧¬S d):=by
    obtain ⟨p,hp⟩:∃p,p∈R.drop (R.length-1)++R.take (i+1):=⟨_,ay (i:=0) (by have:=E2.len;omega)⟩
    have a:=(E2.ring p hp).2.1
    have:=v9 (w:=w) (A:=λd=>A d∧¬S d) (A':=λ_=>False) (λ_ z=>z.elim) (E2.dart _ a) a id
    omega
   have x1:=x1 (by omega)
   have x2:=x2 (by omega)
   have FY:∀p,p∈(R.take (R.length-1+1)).drop i→p∈R:=λp h=>vI (xq h);have FZ:∀p,p∈R.drop (R.length-1)++R.take (i+1)→p∈R:=λp h=>(cq.mp h).elim xq vI
   have DB:∀p,p∈R→p∈(R.take (R.length-1+1)).drop i∨p∈R.drop (R.length-1)++R.take (i+1):=λp h=>by
    rw [show R.length-1+1=R.length by omega,List.take_length]
    rw [←iH i R] at h
    rcases cq.mp h with h|h
    ·refine .inr (eY _ ?_)
     rw [List.take_add_one];exact dW _ h
    ·exact .inl h
   have key:kE w R A=kE w ((R.take (R.length-1+1)).drop i) (λd=>A d∧S d)+kE w (R.drop (R.length-1)++R.take (i+1)) (λd=>A d∧¬S d):=by
    unfold kE;rw [←gJ]
    ·refine dS λp _=>?_
     constructor
     ·rintro ⟨hp,q,a⟩
      by_cases s:S (p,q)
      ·exact .inl ⟨λz=>hp (FY p z),q,a,s⟩
      ·exact .inr ⟨λz=>hp (FZ p z),q,a,s⟩
     ·rintro (⟨hp,q,a,s⟩ | ⟨hp,q,a,s⟩)
      ·refine ⟨λz=>?_,q,a⟩
       rcases DB p z with z|z
       ·exact hp z
       ·
        have cl:=E1.closed g hp ⟨a,s⟩;obtain ⟨b,hb,eb⟩:=ji E2.nd z;have r:=(E2.ring b hb);rw [eb] at r
        have:=cl b r.1
        exact r.2.1.2 this.2
      ·refine ⟨λz=>?_,q,a⟩
       rcases DB p z with z|z
       ·have cl:=E2.closed g hp ⟨a,s⟩
        obtain ⟨b,hb,eb⟩:=ji E1.nd z;have r:=(E1.ring b hb);rw [eb] at r
        have:=cl b r.1
        exact this.2 r.2.1.2
       ·exact hp z
    ·rintro p _ ⟨hp,q,a,s⟩ ⟨_,q',a',s'⟩
     exact s' (E1.closed g hp ⟨a,s⟩ q' (D.dart _ a')).2
   rw [eN,b8] at x1;rw [cj,eN,b8] at x2;omega
  ·have no:∀i,i<R.length-1→R.getD (R.length-1) 0∉withinL w R i:=λi hi h=>c ⟨i,hi,h⟩
   have hl:R.length-1<R.length:=by omega
   obtain ⟨m,y,F,e0,em,ew⟩:=iE g D hl;have pos:=F.at_.fan.pos;have b4:=F.lt;rw [show R.length-1+1=R.length by omega,nE] at e0
   have ep:bE R (R.length-1)=R.length-2:=by unfold bE;rw [if_neg (by omega)];omega
   rw [ep] at em;have sp:=xg (R:=R) (i:=R.length-2) (j:=R.length-1) (by omega) hl
   rw [show R.length-1-(R.length-2)-1=0 by omega,show R.length-1+1=R.length by omega,List.drop_length,List.take_zero,kZ,←em] at sp
   have pl:(R.take (R.length-2)).length=R.length-2:=by rw [b8];omega
   have p0:(R.take (R.length-2)).getD 0 0=y 0:=by
    rw [e0,aK,pe (by omega),←aK]
   have sM:∀k,0<k→k<m→y k∉R:=λk h1 h2 hR=>by
    obtain ⟨i,hi,ei⟩:=eX.mp hR;have D7:R.getD i 0=y k:=by rw [←ei,aK,bq hi];rfl
    have hm:y k∈withinL w R (R.length-1):=by rw [ew];exact cK.mpr ⟨k,h1,h2,rfl⟩
    rw [←D7] at hm;have hs:=iG g D hl hi hm
    have ne:i≠R.length-1:=by
     intro z;refine F.at_.ne g (k:=k) (by omega) ?_
     rw [←D7,z]
    exact no i (by omega) hs
   generalize hv:R.getD (R.length-1) 0=v at F sp;have tc:=bS.cnt g D F.at_ m (bh _);have sc:=rY w A (bS v m y)
   have st:cnt w (λd=>A d∧bS v m y d)=3*m:=by
    rw [nJ,←tc];exact dS λd _=>⟨λz=>z.2,λz=>⟨F.at_.Rv g D z,z⟩⟩
   by_cases c3:3≤(R.take (R.length-2)).length+m
   ·have E:=sX g D F.at_ sp p0 (λe=>by rw [e] at pl;simp at pl;omega) sM c3
    have x:=ih E (by omega)
    have Wu:((List.range (m-1)).map λk=>y (k+1)).Nodup:=by
     rw [zc,js];refine List.Pairwise.imp_of_mem ?_ List.pairwise_lt_range;intro a b ha hb wA e;have ha:=cm.mp ha;have hb:=cm.mp hb
     have:=F.at_.fan.inj _ _ (by omega) (by omega) e
     omega
    have key:kE w R A=kE w (cg (R.take (R.length-2)) m y) (λd=>A d∧¬bS v m y d)+(m-1):=by
     have e1:num (λp=>p∈(List.range (m-1)).map λk=>y (k+1)) (List.range w.length)=m-1:=by
      rw [ou Wu lq,aJ,gG];intro p hp;obtain ⟨k,hk,rfl⟩:=cT.mp hp;have hk:=cm.mp hk;exact cm.mpr (g.rng _ _ (F.at_.fan.mem (k+1) (by omega)))
     unfold kE;rw [←e1,←gJ]
     ·refine dS λp _=>?_
      have tJ:∀q∈R.take (R.length-2),q∈R:=λq h=>vI h;have vR:v∈R:=F.at_.vm;have Mh:y 0∈R:=by rw [F.at_.nx];exact bc vR
      constructor
      ·rintro ⟨hp,q,a⟩
       by_cases z:p∈cg (R.take (R.length-2)) m y
       ·rcases bD.mp z with z| ⟨k,h1,h2,rfl⟩
        ·exact absurd (tJ p z) hp
        ·by_cases km:k=m
         ·exact absurd (km▸F.at_.pm) hp
         ·exact .inr (cK.mpr ⟨k,by omega,by omega,rfl⟩)
       ·refine .inl ⟨z,q,a,?_⟩
        rintro ⟨k,hk,h|h|h⟩
        ·have e:=(Prod.mk.inj h).1
         by_cases k0:k=0
         ·rw [k0] at e;exact hp (e▸Mh)
         ·exact z (bD.mpr (.inr ⟨k,by omega,by omega,e⟩))
        ·exact hp ((Prod.mk.inj h).1▸vR)
        ·exact z (bD.mpr (.inr ⟨k+1,by omega,by omega,(Prod.mk.inj h).1⟩))
      ·rintro (⟨hp,q,a,nt⟩ |h)
       ·refine ⟨λz=>?_,q,a⟩
        rw [sp] at z
        rcases cq.mp z with z|z
        ·exact hp (bD.mpr (.inl z))
        ·have z:p=y m∨p=v:=by simpa using z
         rcases z with rfl|rfl
         ·exact hp (bD.mpr (.inr ⟨m,by omega,by omega,rfl⟩))
         ·obtain ⟨k,k1,k2,rfl⟩:=Whole.between g D F a
          exact nt ⟨k-1,by omega, .inr (.inl (by rw [show k-1+1=k by omega]))⟩
       ·obtain ⟨k,k1,k2,rfl⟩:=cK.mp h
        exact ⟨sM k k1 k2,_,(F.at_.yi g D k k2).1⟩
     ·rintro p _ ⟨hp,_⟩ h
      obtain ⟨k,k1,k2,rfl⟩:=cK.mp h;exact hp (bD.mpr (.inr ⟨k,by omega,by omega,rfl⟩))
    rw [g8,pl] at x;omega
   ·have hm:m=1:=by omega
    have hr:R.length=3:=by omega
    subst hm
    have hR:R= [y 0,y 1,v]:=by
     have h1:R.take (R.length-2)= [y 0]:=by
      rw [hr] at pl p0 ⊢
      match R.take (3-2),pl,p0 with
      | [a],_,h=>rw [show a=y 0 from h]
     rw [h1] at sp;simpa using sp
    have only:=vD g D F.at_ hR
    have z0:kE w R A=0:=by
     refine jc ?_;rintro p _ ⟨hp,q,a⟩;obtain ⟨k,hk,h⟩:=only _ a
     have:k=0:=by omega
     subst this;rw [hR] at hp
     rcases h with h|h|h<;>obtain ⟨rfl,_⟩:=Prod.mk.inj h<;>simp at hp
    have c0:cnt w (λd=>A d∧¬bS v 1 y d)=0:=jc λd _ z=>z.2 (only d z.1);omega
end
section
variable {w:W} {R:List Nat} {A:Nat×Nat→Prop}
theorem Disc.swap(D:Disc w R A){p q:Nat}(h:A (p,q))(n:p∉R∨q∉R):A (q,p):=by
 refine (D.sym p q (D.dart _ h) (λz=>?_) (λz=>?_)).mp h
 ·rcases n with n|n
  ·exact n z.1
  ·exact n (by rw [z.2];exact bc z.1)
 ·rcases n with n|n
  ·exact n (by rw [z.2];exact bc z.1)
  ·exact n z.1
theorem inn_start(g:Good w)(D:Disc w R A){i z:Nat}(hi:i<R.length)(h:z∈withinL w R i)(hz:z∉R):cI R A z:=
 ⟨hz,_,D.swap ((cY g D hi).mp h).1 (.inr hz)⟩
theorem Cg(g:Good w)(D:Disc w R A){p q:Nat}(h:cI R A p)(hq:q∈row w p)(hz:q∉R):cI R A q:=by
 obtain ⟨h1,r,h2⟩:=h;exact ⟨hz,_,D.swap (D.closed g h1 h2 q hq) (.inl h1)⟩
theorem zA(g:Good w)(D:Disc w R A){M:Nat→Prop}(c1:∀i z,i<R.length→z∈withinL w R i→z∉R→M z)(c2:∀p q,M p→q∈row w p→q∉R→M q){p:Nat}(h:cI R A p):M p:=by
 apply Classical.byContradiction;intro nm
 have step:∀p q,(cI R A p∧¬M p)→q∈row w p→(cI R A q∧¬M q):=λp q ⟨hp,np⟩ hq=>by
  obtain ⟨h1,r,h2⟩:=hp;have a:=D.closed g h1 h2 q hq;have a':=D.swap a (.inl h1)
  by_cases c:q∈R
  ·exfalso
   have lt:=fH.mpr c;have e:R.getD (R.idxOf q) 0=q:=by rw [aK,bq lt,gE lt];rfl
   refine np (c1 (R.idxOf q) p lt ((cY g D lt).mpr ⟨by rw [e];exact a',λz=>h1 ?_⟩) h1)
   rw [z];exact ay (fb lt)
  ·exact ⟨⟨c,p,a'⟩,λmq=>np (c2 q p mq (g.sym _ _ hq) h1)⟩
 have b4:p<w.length:=by obtain ⟨_,q,a⟩:=h;exact bu (D.dart _ a)
 have all:∀{a b},Reach w a b→(cI R A b∧¬M b)→(cI R A a∧¬M a):=λ {a b} r=>by
  induction r with
  |refl=>exact id
  |step _ hr ih=>exact λhb=>ih (step _ _ hb (g.sym _ _ hr))
 have z0:=all (g.con p b4) ⟨h,nm⟩;have fwd:∀q,q<w.length→(cI R A q∧¬M q):=ql g z0 step;have hr:R.getD 0 0∈R:=ay (by have:=D.len;omega)
 exact (fwd _ (bu (g.sym _ _ (D.ring _ hr).1))).1.1 hr
theorem rE(g:Good w)(D:Disc w R A){p:Nat}(h:cI R A p):p<w.length:=by obtain ⟨_,q,a⟩:=h;exact bu (D.dart _ a)
theorem FE(R:List Nat)(k:Nat):(R.drop k++R.take k).length=R.length:=by
 rw [cj,eN,b8];omega
end
theorem fq{α β:Type}{f:α→β}{l:List α}(nd:l.Nodup)(inj:∀a∈l,∀b∈l,f a=f b→a=b):(l.map f).Nodup:=by
 rw [zc,js];exact (zc.mp nd).imp_of_mem λ {a b} ha hb wA e=>wA (inj a ha b hb e)
section
variable {w:W} {R:List Nat} {A:Nat×Nat→Prop}
def WD(w:W)(R:List Nat)(d:Nat×Nat):Prop:=∃i,i<R.length∧d.1=R.getD i 0∧d.2∈withinL w R i
theorem mE(g:Good w)(D:Disc w R A){i:Nat}(hi:i<R.length):(withinL w R i).Nodup:=by
 obtain ⟨m,y,F,_,_,ew⟩:=iE g D hi;rw [ew];have hl:=F.lt;refine fq lq λa ha b hb e=>?_;rw [cm] at ha hb
 have:=F.inj (a+1) (b+1) (by omega) (by omega) e
 omega
theorem WD.a(g:Good w)(D:Disc w R A){d:Nat×Nat}(h:WD w R d):A d:=by
 obtain ⟨i,hi,e,h⟩:=h
 have:=((cY g D hi).mp h).1
 rw [←e] at this;exact this
theorem qy{α β:Type}{f:α→List β}:∀{l:List α},l.Nodup→(∀a∈l,(f a).Nodup)→(∀a∈l,∀b∈l,∀x,x∈f a→x∈f b→a=b)→(l.flatMap f).Nodup
 | [],_,_,_=>j8
 |a::l,nd,h1,h2=>by
  obtain ⟨n1,n2⟩:=fJ.mp nd;rw [pz,dX];refine ⟨h1 a (bP ..),qy n2 (λb hb=>h1 b (bV _ hb)) (λb hb c hc=>h2 b (bV _ hb) c (bV _ hc)),λx hx y hy e=>?_⟩;obtain ⟨b,hb,hy⟩:=t6.mp hy;subst e
  have:=h2 a (bP ..) b (bV _ hb) x hx hy
  exact n1 (by rw [this];exact hb)
end
section
variable {w:W} {R:List Nat} {A:Nat×Nat→Prop}
theorem zo(g:Good w)(B:kj w)(D:Disc w R A){i j:Nat}(uz:i<j)(hj:j<R.length)(h:R.getD j 0∈withinL w R i):
  ∃A1 A2,Disc w ((R.take (j+1)).drop i) A1∧Disc w (R.drop j++R.take (i+1)) A2∧(∀p,cI R A p↔cI ((R.take (j+1)).drop i) A1 p∨cI (R.drop j++R.take (i+1)) A2 p)∧∀p,cI ((R.take (j+1)).drop i) A1 p→¬cI (R.drop j++R.take (i+1)) A2 p:=by
 obtain ⟨S,E1,E2⟩:=nH g B D uz hj h;refine ⟨_,_,E1,E2,λp=>?_,?_⟩
 ·have FY:∀p,p∈(R.take (j+1)).drop i→p∈R:=λp h=>vI (xq h)
  have FZ:∀p,p∈R.drop j++R.take (i+1)→p∈R:=λp h=>(cq.mp h).elim xq vI
  have DB:∀p,p∈R→p∈(R.take (j+1)).drop i∨p∈R.drop j++R.take (i+1):=λp h=>by
   rw [←iH j R] at h
   rcases cq.mp h with h|h
   ·have h:p∈R.take (j+1):=by rw [List.take_add_one];exact dW _ h
    rw [←iH i (R.take (j+1))] at h
    rcases cq.mp h with h|h
    ·refine .inr (eY _ ?_)
     rw [List.take_take,Nat.min_eq_left (by omega)] at h
     rw [List.take_add_one];exact dW _ h
    ·exact .inl h
   ·exact .inr (dW _ h)
  constructor
  ·rintro ⟨hp,q,a⟩
   by_cases s:S (p,q)
   ·exact .inl ⟨λz=>hp (FY p z),q,a,s⟩
   ·exact .inr ⟨λz=>hp (FZ p z),q,a,s⟩
  ·rintro (⟨hp,q,a,s⟩ | ⟨hp,q,a,s⟩)
   ·refine ⟨λz=>?_,q,a⟩
    rcases DB p z with z|z
    ·exact hp z
    ·have cl:=E1.closed g hp ⟨a,s⟩
     obtain ⟨b,hb,eb⟩:=ji E2.nd z;have r:=(E2.ring b hb);rw [eb] at r
     have:=cl b r.1
     exact r.2.1.2 this.2
   ·refine ⟨λz=>?_,q,a⟩
    rcases DB p z with z|z
    ·have cl:=E2.closed g hp ⟨a,s⟩
     obtain ⟨b,hb,eb⟩:=ji E1.nd z;have r:=(E1.ring b hb);rw [eb] at r
     have:=cl b r.1
     exact this.2 r.2.1.2
    ·exact hp z
 ·rintro p ⟨hp,q,a,s⟩ ⟨_,q',a',s'⟩
  exact s' (E1.closed g hp ⟨a,s⟩ q' (D.dart _ a')).2
theorem Cn(g:Good w)(D:Disc w R A)(no:∀i,i<R.length-1→R.getD (R.length-1) 0∉withinL w R i):
  (R.length=3∧withinL w R (R.length-1)= []∧∀p,¬cI R A p)∨∃A',Disc w (R.dropLast++(withinL w R (R.length-1)).reverse) A'∧(∀p,cI R A p↔p∈withinL w R (R.length-1)∨cI (R.dropLast++(withinL w R (R.length-1)).reverse) A' p)∧∀p∈withinL w R (R.length-1),¬cI (R.dropLast++(withinL w R (R.length-1)).reverse) A' p:=by
 have len:=D.len;have hl:R.length-1<R.length:=by omega
 obtain ⟨m,y,F,e0,em,ew⟩:=iE g D hl;have pos:=F.at_.fan.pos;have b4:=F.lt;rw [show R.length-1+1=R.length by omega,nE] at e0
 have ep:bE R (R.length-1)=R.length-2:=by unfold bE;rw [if_neg (by omega)];omega
 rw [ep] at em;have sp:=xg (R:=R) (i:=R.length-2) (j:=R.length-1) (by omega) hl
 rw [show R.length-1-(R.length-2)-1=0 by omega,show R.length-1+1=R.length by omega,List.drop_length,List.take_zero,kZ,←em] at sp
 have pl:(R.take (R.length-2)).length=R.length-2:=by rw [b8];omega
 have p0:(R.take (R.length-2)).getD 0 0=y 0:=by
  rw [e0,aK,pe (by omega),←aK]
 have sM:∀k,0<k→k<m→y k∉R:=λk h1 h2 hR=>by
  obtain ⟨i,hi,ei⟩:=eX.mp hR;have D7:R.getD i 0=y k:=by rw [←ei,aK,bq hi];rfl
  have hm:y k∈withinL w R (R.length-1):=by rw [ew];exact cK.mpr ⟨k,h1,h2,rfl⟩
  rw [←D7] at hm;have hs:=iG g D hl hi hm
  have ne:i≠R.length-1:=by
   intro z;refine F.at_.ne g (k:=k) (by omega) ?_
   rw [←D7,z]
  exact no i (by omega) hs
 have eq:R.dropLast++(withinL w R (R.length-1)).reverse=cg (R.take (R.length-2)) m y:=by
  rw [ew,Az];unfold cg
  have e1:R.dropLast=R.take (R.length-2)++ [y m]:=by
   rw [List.dropLast_eq_take,show R.length-1=R.length-2+1 by omega,List.take_succ,bq (by omega),em,aK,bq (by omega)]
   rfl
  rw [e1,mF]
  congr 1
  obtain ⟨m',rfl⟩:∃m',m=m'+1:=⟨m-1,by omega⟩
  rw [List.range_succ_eq_map,lg,fK];simp only [Nat.add_sub_cancel,List.singleton_append,Nat.sub_zero]
  congr 1
  refine zg λi _=>?_;show y (m'-i)=y (m'+1-(i+1))
  congr 1;omega
 rw [eq,ew];generalize hv:R.getD (R.length-1) 0=v at F sp
 by_cases c3:3≤(R.take (R.length-2)).length+m
 ·have E:=sX g D F.at_ sp p0 (λe=>by rw [e] at pl;simp at pl;omega) sM c3
  refine .inr ⟨_,E,λp=>?_,λp h=>?_⟩
  ·have tJ:∀q∈R.take (R.length-2),q∈R:=λq h=>vI h
   have vR:v∈R:=F.at_.vm;have Mh:y 0∈R:=by rw [F.at_.nx];exact bc vR
   constructor
   ·rintro ⟨hp,q,a⟩
    by_cases z:p∈cg (R.take (R.length-2)) m y
    ·rcases bD.mp z with z| ⟨k,h1,h2,rfl⟩
     ·exact absurd (tJ p z) hp
     ·by_cases km:k=m
      ·exact absurd (km▸F.at_.pm) hp
      ·exact .inl (cK.mpr ⟨k,by omega,by omega,rfl⟩)
    ·refine .inr ⟨z,q,a,?_⟩
     rintro ⟨k,hk,h|h|h⟩
     ·have e:=(Prod.mk.inj h).1
      by_cases k0:k=0
      ·rw [k0] at e;exact hp (e▸Mh)
      ·exact z (bD.mpr (.inr ⟨k,by omega,by omega,e⟩))
     ·exact hp ((Prod.mk.inj h).1▸vR)
     ·exact z (bD.mpr (.inr ⟨k+1,by omega,by omega,(Prod.mk.inj h).1⟩))
   ·rintro (h| ⟨hp,q,a,nt⟩)
    ·obtain ⟨k,k1,k2,rfl⟩:=cK.mp h
     exact ⟨sM k k1 k2,_,(F.at_.yi g D k k2).1⟩
    ·refine ⟨λz=>?_,q,a⟩
     rw [sp] at z
     rcases cq.mp z with z|z
     ·exact hp (bD.mpr (.inl z))
     ·have z:p=y m∨p=v:=by simpa using z
      rcases z with rfl|rfl
      ·exact hp (bD.mpr (.inr ⟨m,by omega,by omega,rfl⟩))
      ·obtain ⟨k,k1,k2,rfl⟩:=Whole.between g D F a
       exact nt ⟨k-1,by omega, .inr (.inl (by rw [show k-1+1=k by omega]))⟩
  ·rintro ⟨hp,_⟩
   obtain ⟨k,k1,k2,rfl⟩:=cK.mp h;exact hp (bD.mpr (.inr ⟨k,by omega,by omega,rfl⟩))
 ·have hm:m=1:=by omega
  have hr:R.length=3:=by omega
  subst hm
  have hR:R= [y 0,y 1,v]:=by
   have h1:R.take (R.length-2)= [y 0]:=by
    rw [hr] at pl p0 ⊢
    match R.take (3-2),pl,p0 with
    | [a],_,h=>rw [show a=y 0 from h]
   rw [h1] at sp;simpa using sp
  have only:=vD g D F.at_ hR;refine .inl ⟨hr,rfl,?_⟩;rintro p ⟨hp,q,a⟩;obtain ⟨k,hk,h⟩:=only _ a
  have:k=0:=by omega
  subst this;rw [hR] at hp
  rcases h with h|h|h<;>obtain ⟨rfl,_⟩:=Prod.mk.inj h<;>simp at hp
theorem Full.ik(g:Good w)(F:Full w R)(h2:2≤w.length)(p:Nat):cI R (λd=>aF w d∧¬bG R d.1 d.2) p↔p<w.length∧p∉R:=by
 constructor
 ·rintro ⟨h,q,a,_⟩;exact ⟨bu a,h⟩
 ·rintro ⟨h1,h⟩
  refine ⟨h,?_⟩;have ne:=g.xa h2 h1;cases e:row w p with
  |nil=>exact absurd e ne
  |cons q l=>exact ⟨q,by show q∈row w p;rw [e];exact bP ..,λz=>h z.1⟩
end
section
variable {w:W} {R:List Nat} {A:Nat×Nat→Prop}
theorem xO(g:Good w)(D:Disc w R A){cs:List (Nat×Nat)}(nc:cs.Nodup)(hc:∀i j,(i,j)∈cs↔i<j∧j<R.length∧R.getD j 0∈withinL w R i):num (λd=>WD w R d∧d.2∈R) (fj w)=2*cs.length:=by
 have nd:=nN g;have len:(cs.map (λt=>(R.getD t.1 0,R.getD t.2 0))++cs.map (λt=>(R.getD t.2 0,R.getD t.1 0))).length=2*cs.length:=by simp;omega
 have cl:∀t∈cs,t.1<t.2∧t.2<R.length:=λt ht=>let h:=(hc t.1 t.2).mp ht;⟨h.1,h.2.1⟩
 have nS:(cs.map (λt=>(R.getD t.1 0,R.getD t.2 0))++cs.map (λt=>(R.getD t.2 0,R.getD t.1 0))).Nodup:=by
  rw [dX];refine ⟨fq nc λa ha b hb e=>?_,fq nc λa ha b hb e=>?_,λx hx y hy e=>?_⟩
  ·have:=cl a ha;have:=cl b hb
   exact Prod.ext (getD_inj D.nd (by omega) (by omega) (Prod.mk.inj e).1) (getD_inj D.nd (by omega) (by omega) (Prod.mk.inj e).2)
  ·have:=cl a ha;have:=cl b hb
   exact Prod.ext (getD_inj D.nd (by omega) (by omega) (Prod.mk.inj e).2) (getD_inj D.nd (by omega) (by omega) (Prod.mk.inj e).1)
  ·obtain ⟨a,ha,rfl⟩:=cT.mp hx
   obtain ⟨b,hb,rfl⟩:=cT.mp hy
   have:=cl a ha;have:=cl b hb
   have:=getD_inj D.nd (i:=a.1) (j:=b.2) (by omega) (by omega) (Prod.mk.inj e).1
   have:=getD_inj D.nd (i:=a.2) (j:=b.1) (by omega) (by omega) (Prod.mk.inj e).2
   omega
 have mem:∀d,d∈(cs.map (λt=>(R.getD t.1 0,R.getD t.2 0))++cs.map (λt=>(R.getD t.2 0,R.getD t.1 0)))↔WD w R d∧d.2∈R:=λd=>by
  rw [cq,cT,cT]
  constructor
  ·rintro (⟨t,ht,rfl⟩ | ⟨t,ht,rfl⟩)
   ·have h:=(hc t.1 t.2).mp ht
    exact ⟨⟨t.1,by omega,rfl,h.2.2⟩,ay h.2.1⟩
   ·have h:=(hc t.1 t.2).mp ht
    exact ⟨⟨t.2,h.2.1,rfl,iG g D (by omega) h.2.1 h.2.2⟩,ay (by omega)⟩
  ·rintro ⟨⟨i,hi,e,h⟩,hr⟩
   have lt:=fH.mpr hr;have ej:R.getD (R.idxOf d.2) 0=d.2:=by rw [aK,bq lt,gE lt];rfl
   rw [←ej] at h
   rcases Nat.lt_trichotomy i (R.idxOf d.2) with c|c|c
   ·exact .inl ⟨(i,R.idxOf d.2),(hc _ _).mpr ⟨c,lt,h⟩,Prod.ext e.symm ej⟩
   ·exfalso
    have a:=((cY g D hi).mp h).1;rw [←c] at a;exact g.irr _ (D.dart _ a)
   ·exact .inr ⟨(R.idxOf d.2,i),(hc _ _).mpr ⟨c,hi,iG g D hi lt h⟩,Prod.ext e.symm ej⟩
 rw [←len,←ou nS nd λd hd=>hE.mpr (D.dart _ (((mem d).mp hd).1.a g D))];exact dS λd _=>(mem d).symm
theorem Bq{α:Type}{P Q:α→Prop}:∀{l:List α},(∀x∈l,P x→Q x)→num P l≤num Q l
 | [],_=>bh _
 |a::l,h=>by
  have ih:=Bq (l:=l) λx hx=>h x (bV _ hx);have h0:=h a (bP ..);obtain ⟨p1,p2⟩:=bI P a l;obtain ⟨q1,q2⟩:=bI Q a l
  by_cases c:P a
  ·have:=p1 c;have:=q1 (h0 c);omega
  ·have:=p2 c
   by_cases c':Q a
   ·have:=q1 c';omega
   ·have:=q2 c';omega
theorem Dy(g:Good w)(B:kj w)(D:Disc w R A)(bw:w.length≤14):cnt w A≤69:=by
 have e:=Kl g B _ D (bh _);have l3:=D.len
 have s:kE w R A+R.length≤w.length:=by
  have h1:num (λp=>p∈R) (List.range w.length)=R.length:=ou D.nd lq λp hp=>cm.mpr ((D.oV g).lt g hp);have h2:=gJ (P:=cI R A) (Q:=λp=>p∈R) (l:=List.range w.length) λp _ h h'=>h.1 h'
  have h3:num (λp=>cI R A p∨p∈R) (List.range w.length)≤(List.range w.length).length:=by
   unfold num;exact List.length_filter_le _ _
  rw [gG] at h3;unfold kE;omega
 omega
theorem qk(g:Good w)(B:kj w)(D:Disc w R A)(bw:w.length≤14){cs:List (Nat×Nat)}(nc:cs.Nodup)(hc:∀i j,(i,j)∈cs↔i<j∧j<R.length∧R.getD j 0∈withinL w R i):cs.length<64:=by
 have h1:=xO g D nc hc;have h2:=Dy g B D bw;have h3:num (λd=>WD w R d∧d.2∈R) (fj w)≤cnt w A:=Bq λd _ h=>h.1.a g D;omega
end
end Wb
namespace mK
open PySem L2 Wb
variable {P:Program} {w:World} {mg:Str→Option Value} {base:Heap} {Z:DC} (T:Txt Z mg)
theorem Je{g:cU}{cz:fT}{g1:cU}{b5:cN}{te:aS}{α β γ:Type}(I:DN→Prop)(J:α→DN→Prop)(enc:α→D)(f:α→List β)(gw:β→D)(p:α→β→Bool)(k:α→β→γ)(kA:γ→D)(JI:∀y ρ,J y ρ→I ρ):∀(ys:List α)(aA:DN)(acc:List γ)(P:List D→Prop),
  (∀y∈ys,∀aA,I aA→∀(Y:DN→List D→Prop),(∀aT,J y aT→Y aT ((f y).map gw))→g (enc y) aA λaT=>cz aT (Y aT))→
  (∀y∈ys,∀b∈f y,∀aA,J y aA→∀(Y:DN→D→Prop)(Nn:DN→Prop),(∀aT,J y aT→p y b=true→Y aT (kA (k y b)))→(∀aT,J y aT→p y b=false→Nn aT)→g1 (gw b) aA λaT=>b5 aT λc=>if c=true then te aT (Y aT) else Nn aT)→
  I aA→acc.length+(ys.flatMap λy=>((f y).filter (p y)).map (k y)).length≤sizeLine→(∀y∈ys,acc.length+(ys.flatMap λy=>((f y).filter (p y)).map (k y)).length+(f y).length≤sizeLine)→P ((acc++ys.flatMap λy=>((f y).filter (p y)).map (k y)).map kA)→gx g ma cz g1 b5 te (ys.map enc) aA (acc.map kA) P
 | [],aA,acc,P,_,_,hI,_,_,h=>by
  show P (acc.map kA);simpa using h
 |y::ys,aA,acc,P,h1,h2,hI,hz,hy,h=>by
  have Uu:=hy y (bP ..);rw [pz,cj] at hz Uu;refine h1 y (bP ..) aA hI (λaT es=>lcW g1 b5 te es aT (acc.map kA) λck iX=>gx g ma cz g1 b5 te (ys.map enc) ck iX P) λaT TJ=>?_;refine om (J y) gw (p y) (λb=>kA (k y b)) (f y) aT (acc.map kA) _ (λb hb ck Kz Y Nn hY hN=>?_) TJ (by rw [aJ];omega) λck Kz=>?_
  ·exact h2 y (bP ..) b hb ck Kz Y Nn hY hN
  ·have e:acc.map kA++((f y).filter (p y)).map (λb=>kA (k y b))=(acc++((f y).filter (p y)).map (k y)).map kA:=by rw [dJ,fK];rfl
   rw [e];refine Je I J enc f gw p k kA JI ys ck (acc++((f y).filter (p y)).map (k y)) P (λz hz=>h1 z (bV _ hz)) (λz hz=>h2 z (bV _ hz)) (JI y ck Kz) (by rw [cj];omega) (λz hz=>?_) ?_
   ·have:=hy z (bV _ hz)
    rw [pz,cj] at this;rw [cj];omega
   ·rw [pz] at h
    rw [mF];exact h
theorem Cj{ms:List Int}{ns:List Nat}(pm:ms.Perm (ns.map λ(n:Nat)=>(n:Int)))(lV:ms.Pairwise (·≤·))(nd:ns.Nodup):∃L:List Nat,ms.map D.int=L.map af∧L.Pairwise (·<·)∧L.Perm ns:=by
 have e:∀m∈ms,((m.toNat:Nat):Int)=m:=λm hm=>by
  obtain ⟨n,_,rfl⟩:=cT.mp (pm.mem_iff.mp hm);simp
 have pn:(ms.map Int.toNat).Perm ns:=by
  have:=pm.map Int.toNat
  rw [fK] at this;rw [show (Int.toNat∘λ(n:Nat)=>(n:Int))=id from by funext n;simp] at this
  simpa using this
 refine ⟨ms.map Int.toNat,?_,?_,pn⟩
 ·rw [fK]
  exact zg λm hm=>by show D.int m=af m.toNat;unfold af;rw [e m hm]
 ·have jb:=pn.nodup_iff.mpr nd
  rw [zc,js] at jb;rw [js]
  exact (lV.and jb).imp λ {a b} ⟨h1,h2⟩=>by
   have:a.toNat≤b.toNat:=Int.toNat_le_toNat h1
   omega
theorem iF{w:W}{R:List Nat}{i:Nat}(g:Good w)(bw:w.length≤14)(Ti:fG w R)(hi:i<R.length):(withinL w R i).length≤14:=by
 rw [oY]
 have:=tM (Ti.next (i:=i) hi)
 have h2:=h7 g (R.getD i 0);rw [b8];omega
def AK:cZ:=λds P=>∃(w:W)(R:List Nat)(A:Nat×Nat→Prop),ds= [.dN w,ai R]∧Good w∧w.length≤14∧Disc w R A∧∀L:List Nat,L.Pairwise (·<·)→(∀p,p∈L↔cI R A p)→P (ai L)
theorem cL:FnOk P w Z.K mg base cE 3 T.d_points_within.f T.d_points_within.fd ["web","ring"] (aV Z AK):=by
 have nd:=iC.nd;refine bo T.d_points_within.F iC [0,0,0,1,99,0] (by decide) (λds R h=>by obtain ⟨_,_,_,rfl,_⟩:=h;rfl) (λbz A outer s H E ds R hr h=>?_)
 have hu:=hr.units
 refine ⟨_,(ah (aE false 2 nd (uN T.W (aa 0) T.m_turns.m (mj T) (hr.mono (by decide)) T.m_turns.b))
   (ah (zu 3 (NC:= ["i","p","web","ring"]) (src:= [none,none,some 0,some 1]) rfl nd (qN (au eE)) ⟨rfl,rfl,rfl,rfl,trivial⟩ (mM rfl T.B.range (ab (ax aO rfl T.B.len aN (ab (aa 1) ag)) ag)) (λ_ _ _=>(cw 0 (show (["i","p","web","ring"]:List Str).Nodup from by decide+kernel))) (λ_ _ _=>eT) (λ_ _ _=>(cx (az T.d_within_at ((fv T).imp AJ) hr (ab (aa 2) (ab (aa 3) (ab (aa 0) ag)))))) (λ_ _ _=>(cw 1 (show (["i","p","web","ring"]:List Str).Nodup from by decide+kernel))) (λ_ _ _=>eT) (λ_ _ _=>(aa 1)))
   (ah (D5 4 nd rfl T.x_set)
   (ah (uU PassesOwn.never (iu (aa 3)) (ah (wj 5 3 nd)
   (ao (bT (DW.dt (Bc (bg pW (aa 5) (aa 1) (by with_unfolding_all rfl)) (xX (bg Al (aa 5) (aa 4) (by with_unfolding_all rfl))))) (ah (D4 false 4 (aa 5))
   (ao (GB 3 (bC (aa 2) (aa 5))))) ba))))
   (ao (aI (ax (BV rfl) rfl T.B.sorted gX (ab (aa 4) ag)))))))),?_⟩
 obtain ⟨w',R',A',rfl,g,bw,D',q⟩:=h;have Ti:=D'.oV g;have CN:=Ti.qc g;have lR:(R'.map af).length=R'.length:=aJ _;have wl:∀i,i<R'.length→(withinL w' R' i).length≤14:=λi hi=>iF g bw Ti hi;refine ⟨_,rfl,w',rfl,w',rfl,bw,trivial,?_⟩;refine ⟨_,rfl,⟨by omega,by show ((R'.map af).length:Int)<2^62;omega⟩,?_⟩
 rw [show (((R'.map af).length:Int)).toNat=R'.length by omega,ng]
 have fl:∀n,n≤R'.length→((List.range n).flatMap λi=>withinL w' R' i).length≤n*14:=λn=>by
  induction n with
  |zero=>intro _;simp
  |succ n ih=>
   intro h
   have:=ih (by omega)
   have:=wl n (by omega)
   rw [List.range_succ,List.flatMap_append,cj];simp only [pz,List.flatMap_nil,j5];omega
 have Kp:=fl R'.length (bh _);refine yq (λρ=>∃o0 o1,ρ= [o0,o1,some (.dN w'),some (ai R')]) af (λi=>withinL w' R' i) af (List.range R'.length) _ [] _ (λi hi aA hI Y hY=>?_) (λi hi b hb aA hI Y hY=>?_) ⟨none,none,rfl⟩ (by rw [pC,qi];exact small (by omega)) ?_
 ·obtain ⟨o0,o1,rfl⟩:=hI
  exact ⟨_,rfl,_,rfl,_,rfl,w',R',i,rfl,g,bw,Ti,cm.mp hi,hY _ ⟨_,_,rfl⟩⟩
 ·obtain ⟨o0,o1,rfl⟩:=hI
  exact ⟨_,rfl,hY _ ⟨_,_,rfl⟩⟩
 rw [kZ]
 have start:∀z,z∈((List.range R'.length).flatMap λi=>withinL w' R' i)↔∃i,i<R'.length∧z∈withinL w' R' i:=λz=>by
  rw [t6];exact ⟨λ⟨i,hi,h⟩=>⟨i,cm.mp hi,h⟩,λ⟨i,hi,h⟩=>⟨i,cm.mpr hi,h⟩⟩
 generalize ((List.range R'.length).flatMap λi=>withinL w' R' i)=Ga at start Kp
 refine t4 (λm ρ=>∃(ws ms:List Nat)(o5:Option D),ρ= [some (.dN w'),some (ai R'),some (aM w'),some (.lst (ws.map af)),some (.set (dM w) (ms.map λ(n:Nat)=>(n:Int))),o5]∧ms.Nodup∧(∀p∈ms,cI R' A' p)∧(∀z∈ws,z∉R'→cI R' A' z)∧
  (∀z∈Ga,z∉R'→z∈ms∨z∈ws)∧(∀p∈ms,∀q∈row w' p,q∉R'→q∈ms∨q∈ws)∧m=ws.length+20*(20-ms.length)∧ws.length≤200+20*ms.length) (Ga.length+400) ?_ ?_
 ·exact ⟨Ga,[],_,rfl,j8,(λp hp=>nomatch hp),λz hz n=>let ⟨i,hi,h⟩:=(start z).mp hz;inn_start g D' hi h n,λz hz _=> .inr hz,(λp hp=>nomatch hp),rfl,(by show Ga.length≤200+0;omega)⟩
 rintro m _ ⟨ws,ms,o5,rfl,nm,hm,hw,c1,c2,em,hz⟩
 have ml:ms.length≤14:=by
  have:=aU (m:=List.range w'.length) nm λp hp=>cm.mpr (rE g D' (hm p hp))
  rw [gG] at this;omega
 refine ⟨_,rfl,rfl,?_⟩
 rcases xp ws with rfl| ⟨pd,p,e⟩
 ·refine cy ?_
  refine ⟨_,rfl,_,rfl,by rw [aJ];omega,λks pm lV=>?_⟩
  obtain ⟨L,e1,e2,e3⟩:=Cj pm lV nm;rw [e1];refine q L e2 λp=>?_;rw [e3.mem_iff];refine ⟨hm p,λhp=>?_⟩;refine zA g D' (M:=λx=>x∈ms) (λi z hi h n=>?_) (λp q hp hq n=>?_) hp
  ·rcases c1 z ((start z).mpr ⟨i,hi,h⟩) n with h|h
   ·exact h
   ·cases h
  ·rcases c2 p hp q hq n with h|h
   ·exact h
   ·cases h
 ·rw [ze] at e
  subst e;rw [show vE (.lst ((pd++ [p]).map af))=true by simp [vE]]
  refine cD ?_;rw [cj] at em hz;simp only [uc] at em hz;refine ⟨pd.map af,af p,by rw [dJ];rfl,?_⟩
  have Jh:∀x:Nat,decide ((x:Int)∈ms.map λ(n:Nat)=>(n:Int))=decide (x∈ms):=λx=>by
   refine decide_eq_decide.mpr ?_;rw [cT]
   exact ⟨λ⟨y,hy,e⟩=>by have:y=x:=by omega
                        rw [←this];exact hy,λh=>⟨x,h,rfl⟩⟩
  have keep:∀(F:DN→Prop),(p∈R'∨p∈ms)→(∀ρ,(∃(ws ms:List Nat)(o5:Option D),ρ= [some (.dN w'),some (ai R'),some (aM w'),some (.lst (ws.map af)),some (.set (dM w) (ms.map λ(n:Nat)=>(n:Int))),o5]∧ms.Nodup∧(∀p∈ms,cI R' A' p)∧(∀z∈ws,z∉R'→cI R' A' z)∧
    (∀z∈Ga,z∉R'→z∈ms∨z∈ws)∧(∀p∈ms,∀q∈row w' p,q∉R'→q∈ms∨q∈ws)∧m-1=ws.length+20*(20-ms.length)∧ws.length≤200+20*ms.length)→F ρ)→
    F [some (.dN w'),some (ai R'),some (aM w'),some (.lst (pd.map af)),some (.set (dM w) (ms.map λ(n:Nat)=>(n:Int))),some (af p)]:=λF hp hF=>by
   have drop:∀z,z∉R'→(z∈ms∨z∈pd++ [p])→(z∈ms∨z∈pd):=λz n h=>by
    rcases h with h|h
    ·exact .inl h
    ·rcases cq.mp h with h|h
     ·exact .inr h
     ·rw [gF] at h
      subst h
      rcases hp with hp|hp
      ·exact absurd hp n
      ·exact .inl hp
   exact hF _ ⟨pd,ms,_,rfl,nm,hm,λz hz=>hw z (dW _ hz),λz hz n=>drop z n (c1 z hz n),λx hx y hy n=>drop y n (c2 x hx y hy n),by omega,by omega⟩
  refine ⟨_,rfl,_,rfl,rfl,b6 _,_,rfl,?_⟩;refine (?_:if (if true=true then !inD (af p) (R'.map af) else _)=true then _ else _);rw [if_pos rfl,g7];refine dG (λnr=>?_) (λnr=>?_)
  ·have nr:p∉R':=by simpa using nr
   refine ⟨_,rfl,_,rfl,_,_,_,rfl,rfl,_,rfl,?_⟩;refine (?_:if (if true=true then !decide ((p:Int)∈ms.map λ(n:Nat)=>(n:Int)) else _)=true then _ else _);rw [if_pos rfl,Jh];refine dG (λnq=>?_) (λnq=>?_)
   ·have nq:p∉ms:=by simpa using nq
    have ip:cI R' A' p:=hw p (by simp) nr
    have b4:=rE g D' ip;have rl:=h7 g p;refine ⟨_,rfl,_,rfl,p,rfl,by rw [aJ];omega,?_⟩
    refine ⟨_,rfl,_,rfl,_,rfl,_,fZ b4,_,rfl,(by rw [aJ,aJ];exact small (by omega)),?_⟩
    have e1:u4 (ms.map λ(n:Nat)=>(n:Int)) (p:Int)=(ms++ [p]).map λ(n:Nat)=>(n:Int):=by
     unfold u4;rw [if_neg (by have:=Jh p;rw [decide_eq_false nq] at this;exact of_decide_eq_false this),dJ];rfl
    refine ⟨(pd++row w' p).length+20*(20-(ms++ [p]).length),by rw [cj,cj,uc];omega,pd++row w' p,ms++ [p],some (af p),?_,?_,?_,?_,?_,?_,rfl,?_⟩
    ·rw [←e1,show (pd++row w' p).map af=pd.map af++(row w' p).map af from dJ ..];rfl
    ·rw [dX]
     refine ⟨nm,by simp,λx hx y hy z=>nq ?_⟩
     rw [gF] at hy;rw [←hy,←z];exact hx
    ·intro x hx
     rcases cq.mp hx with hx|hx
     ·exact hm x hx
     ·rw [gF] at hx;rw [hx];exact ip
    ·intro z hz n
     rcases cq.mp hz with hz|hz
     ·exact hw z (dW _ hz) n
     ·exact Cg g D' ip hz n
    ·intro z hz n
     rcases c1 z hz n with h|h
     ·exact .inl (dW _ h)
     ·rcases cq.mp h with h|h
      ·exact .inr (dW _ h)
      ·exact .inl (eY _ h)
    ·intro x hx y hy n
     rcases cq.mp hx with hx|hx
     ·rcases c2 x hx y hy n with h|h
      ·exact .inl (dW _ h)
      ·rcases cq.mp h with h|h
       ·exact .inr (dW _ h)
       ·exact .inl (eY _ h)
     ·rw [gF] at hx
      subst hx;exact .inr (eY _ hy)
    ·rw [cj,cj,uc];omega
   ·have nq:p∈ms:=by simpa using nq
    exact keep _ (.inr nq) λρ h=>⟨m-1,by omega,h⟩
  ·have nr:p∈R':=by simpa using nr
   refine cy ?_;exact keep _ (.inl nr) λρ h=>⟨m-1,by omega,h⟩
def AI:cZ:=λds P=>∃(w:W)(R:List Nat)(A:Nat×Nat→Prop),ds= [.dN w,ai R]∧Good w∧kj w∧w.length≤14∧Disc w R A∧∀cs:List (Nat×Nat),cs.Nodup→cs.Pairwise lexLe→(∀i j,(i,j)∈cs↔i<j∧j<R.length∧R.getD j 0∈withinL w R i)→P (.lst (cs.map pairD))
theorem An:FnOk P w Z.K mg base cE 3 T.d_chords.f T.d_chords.fd ["web","ring"] (aV Z AI):=by
 have nd:=tP.nd;refine bo T.d_chords.F tP [0,0,0] (by decide) (λds R h=>by obtain ⟨_,_,_,rfl,_⟩:=h;rfl) (λbz A outer s H E ds R hr h=>?_)
 have hu:=hr.units
 refine ⟨_,(ah (zv 2 (NC:= ["i","p","ring","web"]) (src:= [none,none,some 1,some 0]) rfl nd (qN (au jk)) ⟨rfl,rfl,rfl,rfl,trivial⟩ (mM rfl T.B.range (ab (ax aO rfl T.B.len aN (ab (aa 1) ag)) ag)) (λ_ _ _=>(cw 0 (show (["i","p","ring","web"]:List Str).Nodup from by decide+kernel))) (λ_ _ _=>eT) (λ_ _ _=>(cx (az T.d_within_at ((fv T).imp AJ) hr (ab (aa 3) (ab (aa 2) (ab (aa 0) ag)))))) (λ_ _ _=>(cw 1 (show (["i","p","ring","web"]:List Str).Nodup from by decide+kernel))) (λ_ _ _=>(nW (bg wO (aa 1) (aa 2) (by with_unfolding_all rfl)))) (λ_ _ _=>(ee (ab (aa 0) (ab (lE (aa 2) (aa 1)) ag)))))
   (ao (aI (ax (zk hu) rfl T.B.sorted gX (ab (sr (NC:= ["i","j"]) (src:= [none,none]) rfl (qN (au jk)) trivial (cx (aa 2)) (λ_ _ _=>(Gz 2 rfl (uP (cw 0 (show (["i","j"]:List Str).Nodup from by decide+kernel)) (uP (cw 1 (show (["i","j"]:List Str).Nodup from by decide+kernel)) DZ)))) (λ_ _ _=>(nW (bg pV (aa 0) (aa 1) (bp _)))) (λ_ _ _=>(ee (ab (aa 0) (ab (aa 1) ag))))) ag))))),?_⟩
 obtain ⟨w',R',A',rfl,g,B,bw,D',q⟩:=h;have Ti:=D'.oV g;have CN:=Ti.qc g;have lR:(R'.map af).length=R'.length:=aJ _;have wl:∀i,i<R'.length→(withinL w' R' i).length≤14:=λi hi=>iF g bw Ti hi;refine ⟨_,rfl,⟨by omega,by show ((R'.map af).length:Int)<2^62;omega⟩,?_⟩
 rw [show (((R'.map af).length:Int)).toNat=R'.length by omega,ng]
 have fl:∀n,n≤R'.length→((List.range n).flatMap λi=>((withinL w' R' i).filter λb=>decide (b∈R')).map λb=>(i,R'.idxOf b)).length≤n*14:=λn=>by
  induction n with
  |zero=>intro _;simp
  |succ n ih=>
   intro h
   have:=ih (by omega)
   have:=wl n (by omega)
   have h3:=List.length_filter_le (λb=>decide (b∈R')) (withinL w' R' n);rw [List.range_succ,List.flatMap_append,cj];simp only [pz,List.flatMap_nil,j5,aJ];omega
 have Kp:=fl R'.length (bh _);refine Je (λρ=>∃o0 o1,ρ= [o0,o1,some (ai R'),some (.dN w')]) (λi ρ=>∃o1,ρ= [some (af i),o1,some (ai R'),some (.dN w')]) af (λi=>withinL w' R' i) af (λi b=>decide (b∈R')) (λi b=>(i,R'.idxOf b)) pairD (λy ρ ⟨o2,e⟩=>⟨_,_,e⟩) (List.range R'.length) _ [] _ (λi hi aA hI Y hY=>?_) (λi hi b hb aA hI Y Nn hY hN=>?_) ⟨none,none,rfl⟩ (by rw [pC,qi];exact small (by omega)) (λi hi=>by have:=wl i (cm.mp hi);rw [pC,qi];exact small (by omega)) ?_
 ·obtain ⟨o0,o1,rfl⟩:=hI
  exact ⟨_,rfl,_,rfl,_,rfl,w',R',i,rfl,g,bw,Ti,cm.mp hi,hY _ ⟨_,rfl⟩⟩
 ·obtain ⟨o1,rfl⟩:=hI
  refine ⟨_,rfl,_,rfl,rfl,b6 _,_,rfl,?_⟩;refine (?_:if (if false=true then _ else inD (af b) (R'.map af))=true then _ else _);rw [if_neg bY,g7];refine dG (λe=>?_) (λe=>hN _ ⟨_,rfl⟩ e);have KN:b∈R':=of_decide_eq_true e;exact ⟨_,rfl,_,rfl,_,rfl,_,rfl,rfl,b6 _,_,_,(bB KN).1,(bB KN).2.1,(bB KN).2.2,by show 2≤sizeLine;decide,hY _ ⟨_,rfl⟩ e⟩
 rw [kZ]
 have mem:∀t,t∈((List.range R'.length).flatMap λi=>((withinL w' R' i).filter λb=>decide (b∈R')).map λb=>(i,R'.idxOf b))↔t.1<R'.length∧t.2<R'.length∧R'.getD t.2 0∈withinL w' R' t.1:=λt=>by
  rw [t6]
  constructor
  ·rintro ⟨i,hi,h⟩
   obtain ⟨b,hb,rfl⟩:=cT.mp h;obtain ⟨h1,h2⟩:=j7.mp hb;have h2:b∈R':=of_decide_eq_true h2;have lt:=fH.mpr h2;have ej:R'.getD (R'.idxOf b) 0=b:=by rw [aK,bq lt,gE lt];rfl
   exact ⟨cm.mp hi,lt,by show R'.getD (R'.idxOf b) 0∈withinL w' R' i;rw [ej];exact h1⟩
  ·rintro ⟨h1,h2,h3⟩
   refine ⟨t.1,cm.mpr h1,cT.mpr ⟨R'.getD t.2 0,j7.mpr ⟨h3,decide_eq_true (ay h2)⟩,?_⟩⟩;have e:R'.getD t.2 0=R'[t.2]:=by rw [aK,bq h2];rfl
   rw [e,D'.nd.idxOf_getElem t.2 h2]
 have nod:((List.range R'.length).flatMap λi=>((withinL w' R' i).filter λb=>decide (b∈R')).map λb=>(i,R'.idxOf b)).Nodup:=by
  refine qy lq (λi hi=>?_) λi hi j hj x hx hy=>?_
  ·refine fq ((mE g D' (cm.mp hi)).filter _) λa ha b hb e=>?_
   have ha:a∈R':=of_decide_eq_true (j7.mp ha).2;have hb:b∈R':=of_decide_eq_true (j7.mp hb).2;have e:R'.idxOf a=R'.idxOf b:=(Prod.mk.inj e).2;have la:=fH.mpr ha;have lb:=fH.mpr hb;have e1:=gE la;have e2:=gE lb;rw [←e1,←e2]
   congr 1
  ·obtain ⟨_,_,rfl⟩:=cT.mp hx
   obtain ⟨_,_,e⟩:=cT.mp hy;exact (Prod.mk.inj e).1.symm
 generalize ((List.range R'.length).flatMap λi=>((withinL w' R' i).filter λb=>decide (b∈R')).map λb=>(i,R'.idxOf b))=ps at mem nod Kp;refine ⟨trivial,?_⟩;refine ⟨_,rfl,om (λρ=>∃o0 o1,ρ= [o0,o1]) pairD (λt=>decide (t.1<t.2)) pairD ps _ [] _ (λt ht aA hI Y Nn hY hN=>?_) ⟨none,none,rfl⟩ (by rw [pC,qi];exact small (by omega)) λaA hI=>?_⟩
 ·obtain ⟨o0,o1,rfl⟩:=hI
  refine ⟨rfl,rfl,?_⟩;refine ⟨_,rfl,_,rfl,_,rfl,?_⟩;refine (?_:if decide ((t.1:Int)<(t.2:Int))=true then _ else _);rw [show decide ((t.1:Int)<(t.2:Int))=decide (t.1<t.2) from decide_eq_decide.mpr (by omega)]
  exact dG (λe=>⟨_,rfl,_,rfl,by show 2≤sizeLine;decide,hY _ ⟨_,_,rfl⟩ e⟩) (λe=>hN _ ⟨_,_,rfl⟩ e)
 ·rw [kZ]
  have mc:∀i j,(i,j)∈ps.filter (λt:Nat×Nat=>decide (t.1<t.2))↔i<j∧j<R'.length∧R'.getD j 0∈withinL w' R' i:=λi j=>by
   rw [j7,mem,decide_eq_true_eq]
   constructor
   ·rintro ⟨⟨h1,h2,h3⟩,h4⟩;exact ⟨h4,h2,h3⟩
   ·rintro ⟨h4,h2,h3⟩;exact ⟨⟨Nat.lt_trans h4 h2,h2,h3⟩,h4⟩
  exact ⟨_,rfl,qk g B D' bw (nod.filter _) mc,λcs pm lV=>q cs (pm.nodup_iff.mpr (nod.filter _)) lV λi j=>by rw [pm.mem_iff];exact mc i j⟩
variable {P:Program} {w:World} {mg:Str→Option Value} {base:Heap} {Z:DC} (T:Txt Z mg)
theorem lL{L:List Nat}{P:D→Prop}(hl:L.length<64)(h:∀M:List Nat,M.Perm L→M.Pairwise (·≤·)→P (ai M)):vX [ai L] P:=by
 refine ⟨L.map λ(n:Nat)=>(n:Int),by unfold ai;rw [fK];rfl,by rw [aJ];exact hl,λms pm lV=>?_⟩
 have e:∀m∈ms,((m.toNat:Nat):Int)=m:=λm hm=>by
  obtain ⟨n,_,rfl⟩:=cT.mp (pm.mem_iff.mp hm);simp
 have pn:(ms.map Int.toNat).Perm L:=by
  have:=pm.map Int.toNat
  rw [fK] at this;rw [show (Int.toNat∘λ(n:Nat)=>(n:Int))=id from by funext n;simp] at this
  simpa using this
 have:=h (ms.map Int.toNat) pn (by
  rw [js];exact lV.imp λ {a b} h1=>Int.toNat_le_toNat h1)
 unfold ai at this;rw [fK] at this;rw [show ms.map D.int=ms.map (af∘Int.toNat) from zg λm hm=>by show D.int m=af m.toNat;unfold af;rw [e m hm]]
 exact this
theorem yK{L:List Nat}(h:L.Pairwise (·<·)):L.Pairwise (·≤·):=h.imp λh=>nB h
theorem yr{a b:List Nat}(ha:a.Pairwise (·≤·))(hb:b.Pairwise (·≤·))(h:a.Perm b):a=b:=
 List.Perm.eq_of_pairwise (λ_ _ _ _ h1 h2=>Nat.le_antisymm h1 h2) ha hb h
def iP(k:Nat×Nat):PyData:= .tuple [nD k.1,nD k.2]
theorem Fw(k:Nat×Nat):(pairD k).py=some (iP k):=by
 unfold pairD;rw [D.py,e6,e6,e6];rfl
theorem uW(a b:Nat×Nat):PyData.eqv (iP a) (iP b)=true↔a=b:=by
 unfold iP nD;simp [PyData.eqv,PyData.eqvAll]
 constructor
 ·rintro ⟨h1,h2⟩;exact Prod.ext (by omega) (by omega)
 ·rintro rfl;exact ⟨rfl,rfl⟩
theorem nP(l:List (Nat×Nat)):(PyData.list (l.map iP)).depth≤64:=by
 rw [PyData.depth]
 have:=fS (f:=iP) (k:=10) (λn=>by unfold iP nD;simp [PyData.depth,PyData.depthAll]) l
 omega
theorem vA(l:List (Nat×Nat)):(D.lst (l.map pairD)).py=some (.list (l.map iP)):=by rw [D.py,hV Fw];rfl
theorem zz(l m:List (Nat×Nat)):PyData.eqv (.list (l.map iP)) (.list (m.map iP))=decide (l=m):=by
 rw [PyData.eqv]
 by_cases e:l=m
 ·rw [decide_eq_true e];exact (fW uW l m).mpr e
 ·rw [decide_eq_false e]
  apply vN.mpr;exact λz=>e ((fW uW l m).mp z)
theorem zq{l m:List (Nat×Nat)}{P:D→Prop}(h:P (.bl (decide (l=m)))):wd (.lst (l.map pairD)) (.lst (m.map pairD)) P:=by
 refine ⟨_,_,vA l,vA m,nP l,?_⟩;rw [if_neg bY,zz];exact h
end mK
namespace L2
open PySem PySem.Spec PyProof.Rows
section
variable {Z:DC} {X:Cx} {md:List Nat} {rn:Nat} {b:Expr} {pos Ir:Pos} {tb:aS}
def JY(md:List Nat)(i:Nat)(tb:aS):dD:=λE ρ=>∃l1,ρ[i]? =some (some (.lst l1))∧tb (dh md ρ) λd2=>∃l2,d2= .lst l2∧l1.length+l2.length≤sizeLine∧E.nx (ρ.set i (some (.lst (l1++l2))))
theorem D3(i:Nat){x:Str}{px py:Pos}(hN:X.N.Nodup)(hb:DE Z X b tb)(hm:md.getD i 0=1:=by rfl)(hi:X.N[i]? =some x:=by rfl)(hx:Loc X.env.scope x:=by first|exact Or.inl rfl|exact Or.inr rfl)(hs:swapsWith (.BinOp (.Name x py) .Add b Ir) (some (.Name x px)) pos.line X.env=pure false:=by rfl)
  (hv:qM X.env.scope x:=by first|exact Or.inl rfl|exact Or.inr (Or.inl rfl) |exact Or.inr (Or.inr rfl)) (hd:(x==("__debug__":Str))=false:=by decide) (fm:(x==("__classdict__":Str))=false:=by decide)
  (hf:X.fn x=true∨X.env.scope.names.lookup x=some .local:=by first|exact .inl rfl|exact .inr rfl|assumption):DSt Z X md rn (.Assign [.Name x px] (.BinOp (.Name x py) .Add b Ir) pos) (JY md i tb):=by
 refine (oK hN hi hx (As wV (pv i hi hv hd fm) hb) hs hf).imp ?_;rintro D σ H ⟨B,ρ,E,⟨G,fp,S⟩,⟨l1,h1,h⟩,M⟩;obtain ⟨l,xs,_,e0,e2,e3,bf,_⟩:=S.one hm h1;cases e0;refine ⟨_,e2,S.ev false h λd hd=>⟨trivial,λv G' H' S' x dv=>?_⟩⟩;obtain ⟨l2,rfl,hz,hn⟩:=hd;obtain ⟨p2,ys,rfl,h2,dz⟩:=dv.hJ;refine ⟨_,_,_,_,rfl,rfl,x.hh _ _ e3,x.sub _ _ h2,by rw [bf.length,dz.length];exact hz,λp iL=>?_⟩
 obtain ⟨o1,o2,o3⟩:=oF x iL ((bf.mono x.gg).append dz);exact M.nx _ hn _ _ ⟨G',_,(S.grow (x.side iL)).FH hm o1 o2 (λb hb=>⟨S.ex.hh.free (o3 b hb).1,(o3 b hb).2⟩) λb hb j _ hj=>(S.nw j b hj).2.1 (o3 b hb).1⟩
end
section
variable {Z:DC} {X:Cx} {o e:Expr} {ta tb:aS} {apos:Pos}
theorem Cu:Dc X "list.count" (λx vs H Q=>∃(l:Addr)(ns:List Int)(k:Int),x= .ref l∧vs= [.int k]∧H l=some (.lst (ns.map V.int))∧Q (.int (ns.count k:Nat)) H):=by
 intro pins s σ H x vs v us Q I rx rv h;obtain ⟨l,ns,k,rfl,rfl,hl,q⟩:=h;cases rx;obtain ⟨u,rfl,ru⟩:=rv.one;obtain ⟨tk,rfl⟩:=ru;obtain ⟨its,r,pl,hz⟩:=I.list (cc.of hl);exact count_list_ints pl.isList (intsAre_of r) ⟨.int _,H,I.tok _,⟨_,rfl⟩,q⟩
def Gs(ta tb:aS):aS:=λρ P=>ta ρ λd=>∃ns:List Int,d= .lst (ns.map D.int)∧tb ρ λy=>∃k:Int,y= .int k∧P (.int (ns.count k:Nat))
theorem B0{aR:Pos}(ho:DE Z X o ta)(he:DE Z X e tb)
  (df:attributeBase o "count" X.env (eval o X.env)=eval o X.env:=by rfl)
  (g5:((backTo aR (starEach [e] X.env)).all (λx=>!x.1)&&(backToKw aR (keywordEach [] X.env)).all (λx=>x.1.isSome)&&decide (([e]:List Expr).length+([]:List Keyword).length+(if ([]:List Keyword).isEmpty then 0 else 1)<30))=true:=by rfl)
  (cG:(apos.endLine==aR.line)=true:=by rfl) (hs:starEach [e] X.env=(false,eval e X.env)::starEach [] X.env:=by rfl) (dg:(backTo aR (starEach [] X.env)).any (·.1)=false:=by rfl):
  DE Z X (.Call (.Attribute o "count" apos) [e] [] aR) (Gs ta tb):=by
 refine (tH PySem.F.plainAttrs_list PySem.F.slot_list_count PySem.F.type_list_count Cu ho (dj he gL hs) df g5 cG hs dg).imp ?_;rintro σ H Q ⟨G,ρ,P,s,en,h,q⟩;refine ⟨G,ρ,_,s,en,h,?_⟩;rintro _ ⟨ns,rfl,hd⟩ v G1 H1 x1 dv;cases dv with
 | @lst p xs ds hp e=>
  refine ⟨ty_list (x1.sub _ _ hp),G1,ρ,_,x1.sub,en.mono x1.gg,hd,λy hy u G2 H2 x2 du=>?_⟩;obtain ⟨k,rfl,h6⟩:=hy;cases du;exact ⟨p,ns,k,rfl,rfl,by rw [←sA e];exact x2.hh _ _ (x1.sub _ _ hp),q _ h6 _ G2 H2 (x1.trans x2) (.int _)⟩
end
end L2
namespace mK
open PySem L2 Wb
variable {P:Program} {w:World} {mg:Str→Option Value} {base:Heap} {Z:DC} (T:Txt Z mg)
def CW:cZ:=λds P=>∃(R:List Nat)(i j:Nat),ds= [ai R,af i,af j]∧R.length≤14∧i<j∧j<R.length∧P (.tup [ai ((R.take (j+1)).drop i),ai (R.drop j++R.take (i+1))])
theorem yB:FnOk P w Z.K mg base cE 1 T.d_parted.f T.d_parted.fd ["ring","i","j"] (kI Z 2 CW):=by
 have nd:=tQ.nd;refine lJ 2 T.d_parted.F tQ [0,0,0] (by decide) (λds R h=>by obtain ⟨_,_,_,rfl,_⟩:=h;rfl) (λbz A outer s H E ds R hr h=>?_)
 have hu:=hr.units;refine ⟨_,(ao (B4 (uO (aa 0) (bA (aa 1)) (bA (aB bJ (aa 2) ar))) (rj (bH (aa 0) (bA (aa 2)) bX) (bH (aa 0) bX (bA (aB bJ (aa 1) ar)))))),?_⟩;obtain ⟨R',i,j,rfl,bw,uz,hj,q⟩:=h;have lR:(R'.map af).length=R'.length:=aJ _
 have c1:cutD (R'.map af) (some (i:Int)) (some ((j:Int)+1))=((R'.take (j+1)).drop i).map af:=by
  have:=uM (R'.map af) i (j+1) (by omega) (by rw [lR];omega)
  rw [lj,lh];exact this
 have c2:cutD (R'.map af) (some (j:Int)) none=(R'.drop j).map af:=by rw [dQ _ _ (by rw [lR];omega),lj]
 have c3:cutD (R'.map af) none (some ((i:Int)+1))=(R'.take (i+1)).map af:=by
  have:=dR (R'.map af) (i+1) (by rw [lR];omega)
  rw [lh];exact this
 have sz:(cutD (R'.map af) (some (j:Int)) none).length+(cutD (R'.map af) none (some ((i:Int)+1))).length≤sizeLine:=by
  rw [c2,c3,aJ,aJ,eN,b8];exact small (by omega)
 have e:(.tup [.lst (cutD (R'.map af) (some (i:Int)) (some ((j:Int)+1))), .lst (cutD (R'.map af) (some (j:Int)) none++cutD (R'.map af) none (some ((i:Int)+1)))]:D)= .tup [ai ((R'.take (j+1)).drop i),ai (R'.drop j++R'.take (i+1))]:=by
  rw [c1,c2,c3];unfold ai;rw [dJ]
 rw [←e] at q;exact ⟨_,rfl,_,rfl,_,rfl,_,rfl,_,rfl,_,rfl,_,rfl,_,rfl,_,rfl,sz,q⟩
def mW(w:W)(R:List Nat):List Nat:=R.dropLast++(withinL w R (R.length-1)).reverse
theorem EH{w:W}{R:List Nat}(h:0<R.length):(.lst (cutD (R.map af) none (some (-1))++((withinL w R (R.length-1)).map af).reverse):D)=ai (mW w R):=by
 rw [r9 _ (by rw [aJ];exact h)]
 unfold ai mW;rw [dJ,List.map_dropLast,List.map_reverse]
theorem EI{w:W}{R:List Nat}(g:Good w)(bw:w.length≤14)(Ti:fG w R):(cutD (R.map af) none (some (-1))).length+((withinL w R (R.length-1)).map af).reverse.length≤sizeLine:=by
 have h3:=Ti.len;have hR:=Ti.qc g
 have:=iF (i:=R.length-1) g bw Ti (by omega)
 rw [r9 _ (by rw [aJ];omega),List.length_dropLast,pk,aJ,aJ]
 exact small (by omega)
def yV:cZ:=λds P=>∃(w:W)(R:List Nat),ds= [.dN w,ai R]∧Good w∧w.length≤14∧fG w R∧P (ai (mW w R))
theorem tu:FnOk P w Z.K mg base cE 3 T.d_made_less.f T.d_made_less.fd ["web","ring"] (kI Z 1 yV):=by
 have nd:=mz.nd;refine lJ 1 T.d_made_less.F mz [0,0] (by decide) (λds R h=>by obtain ⟨_,_,rfl,_⟩:=h;rfl) (λbz A outer s H E ds R hr h=>?_)
 have hu:=hr.units;refine ⟨_,(ao (xV (rj (bH (aa 1) bX (bA (A7 ar))) (DV (az T.d_within_at ((fv T).imp AJ) hr (ab (aa 0) (ab (aa 1) (ab (aB gK (ax aO rfl T.B.len aN (ab (aa 1) ag)) ar) ag)))) (A7 ar))))),?_⟩;obtain ⟨w',R',rfl,g,bw,Ti,q⟩:=h;have lR:(R'.map af).length=R'.length:=aJ _;have h3:=Ti.len;have sD:((R'.map af).length:Int)-1=((R'.length-1:Nat):Int):=by rw [lR];omega
 rw [←EH (by omega)] at q
 refine ⟨_,rfl,_,rfl,_,rfl,_,rfl,_,rfl,w',R',R'.length-1,by show [_,_,D.int (((R'.map af).length:Int)-1)]=_;rw [sD];rfl,g,bw,Ti,by omega,?_⟩
 exact ⟨_,rfl,rfl,_,rfl,EI g bw Ti,q⟩
def FT:cZ:=λds P=>∃(w:W)(a b:Nat),ds= [.dN w,af a,af b]∧Good w∧a<w.length∧b<w.length∧P (.bl (decide (b∈row w a)))
theorem wQ:FnOk P w Z.K mg base cE 2 T.m_tied.f T.m_tied.fd ["self","a","b"] (aV Z FT):=by
 have nd:=oO.nd;refine bo T.m_tied.F oO [0,0,0,0] (by decide) (λds R h=>by obtain ⟨_,_,_,rfl,_⟩:=h;rfl) (λbz A outer s H E ds R hr h=>?_)
 have hu:=hr.units
 refine ⟨_,(ah (aE false 3 nd (ax aO rfl T.B.len aN (ab (su T.W (aa 0)) ag)))
   (ao (aI (lD (az T.d_is_among (jG T) hr (ab (aa 1) (ab (aa 3) ag))) (lD (az T.d_is_among (jG T) hr (ab (aa 2) (ab (aa 3) ag))) (rh (jx wO (aa 2) (bC (su T.W (aa 0)) (aa 1)) (by with_unfolding_all rfl)))))))),?_⟩
 obtain ⟨w',a,b,rfl,g,ha,hb,q⟩:=h;have lw:(w'.map ai).length=w'.length:=aJ _;refine ⟨_,rfl,w',rfl,trivial,?_⟩;have d1:decide ((0:Int)≤(a:Int)∧(a:Int)<((w'.map ai).length:Int))=true:=by rw [lw];exact decide_eq_true (by omega)
 have d2:decide ((0:Int)≤(b:Int)∧(b:Int)<((w'.map ai).length:Int))=true:=by rw [lw];exact decide_eq_true (by omega)
 refine ⟨_,rfl,_,rfl,_,_,rfl,_,congrArg D.bl d1,cD ?_⟩;refine ⟨_,rfl,_,rfl,_,_,rfl,_,congrArg D.bl d2,cD ?_⟩;refine ⟨_,rfl,_,rfl,w',rfl,_,rfl,_,fZ ha,rfl,b6 _,?_⟩;rw [if_neg bY];rw [g7];exact q
variable {P:Program} {w:World} {mg:Str→Option Value} {base:Heap} {Z:DC} (T:Txt Z mg)
def CU:cZ:=λds P=>∃(w:W)(R:List Nat),ds= [.dN w,ai R]∧Good w∧w.length≤14∧fG w R∧P (.bl true)
theorem pY:FnOk P w Z.K mg base cE 3 T.d__law_is_ring.f T.d__law_is_ring.fd ["_law_web_here","_law_ring"] (aV Z CU):=by
 have nd:=jo.nd;refine bo T.d__law_is_ring.F jo [0,0,0] (by decide) (λds R h=>by obtain ⟨_,_,rfl,_⟩:=h;rfl) (λbz A outer s H E ds R hr h=>?_)
 have hu:=hr.units
 refine ⟨_,(ah (nV rfl PassesOwn.never (mN rfl T.B.range (ab (ax aO rfl T.B.len aN (ab (aa 1) ag)) ag)) (aL 2 nd) (ao (bT (DW.dt (sC (bg wN (B0 (aa 1) (bC (aa 1) (aa 2))) ar (bp _)) (rB (lH (iu (DU T.W (aa 0) T.m_tied.m (wQ T) (hr.mono (by decide)) T.m_tied.b (ab (bC (aa 1) (aB gK (aa 2) ar)) (ab (bC (aa 1) (aa 2)) ag)))))))) (ao (aI pJ)) ba)))
   (ao (aI (jx wN (ax aO rfl T.B.len aN (ab (aa 1) ag)) ar (bp _))))),?_⟩
 obtain ⟨w',R',rfl,g,bw,Ti,q⟩:=h;have CN:=Ti.qc g;have h3:=Ti.len;have lR:(R'.map af).length=R'.length:=aJ _;refine ⟨_,rfl,⟨by omega,by show ((R'.map af).length:Int)<2^62;omega⟩,?_⟩
 rw [show (((R'.map af).length:Int)).toNat=R'.length by omega]
 refine pL (λi ρ=>∃o2,ρ= [some (.dN w'),some (ai R'),o2]) ⟨none,rfl⟩ ?_ ?_
 ·rintro i _ hi ⟨o2,rfl⟩ A hA
  refine ⟨_,rfl,R'.map (λ(n:Nat)=>(n:Int)),by unfold ai;rw [fK];rfl,?_⟩
  refine ⟨_,rfl,_,rfl,_,eW hi,_,rfl,_,rfl,oj (decide_eq_false ?_) ?_⟩
  ·have h1:(R'.map (λ(n:Nat)=>(n:Int))).count ((R'.getD i 0:Nat):Int)≤1:=List.nodup_iff_count.mp (fq Ti.nd λa _ b _ e=>by omega) _
   show ¬(1:Int)<_;omega
  have vp:=Ti.lt g (ay (fb hi));have vi:=Ti.lt g (ay hi);refine ⟨_,rfl,w',rfl,_,rfl,_,rfl,_,vx hi,_,rfl,_,rfl,_,eW hi,w',_,_,rfl,g,vp,vi,rfl,?_⟩;have tie:=Ti.tie _ (ay (fb hi));rw [f7 Ti.nd hi] at tie;refine oj (by show (!decide _)=false;rw [decide_eq_true tie];rfl) ?_
  exact hA _ ⟨_,rfl⟩
 ·rintro _ ⟨o2,rfl⟩
  refine ⟨_,rfl,?_⟩;refine (?_:R (.bl (decide ((1:Int)<((R'.map af).length:Int)))));rw [decide_eq_true (by omega)]
  exact q
def FR:cZ:=λds P=>∃(w:W)(R:List Nat)(A:Nat×Nat→Prop)(cs:List (Nat×Nat))(num:Int),ds= [.dN w,ai R, .lst (cs.map pairD), .int num]∧Good w∧kj w∧w.length≤14∧Disc w R A∧cs≠ []∧cs.length≤400∧(∀i j,(i,j)∈cs→i<j∧j<R.length∧R.getD j 0∈withinL w R i)∧
 ∀R1 R2 A1 A2,Disc w R1 A1→Disc w R2 A2→R1.length+R2.length=R.length+2→(∀p,cI R A p↔cI R1 A1 p∨cI R2 A2 p)→(∀p,cI R1 A1 p→¬cI R2 A2 p)→P (.lst [ai R1,ai R2])
theorem w9{w:W}{R L:List Nat}{A:Nat×Nat→Prop}(g:Good w)(bw:w.length≤14)(D':Disc w R A)(s:L.Pairwise (·<·))(m:∀p,p∈L↔cI R A p):L.length≤14:=by
 have:=aU (m:=List.range w.length) (s.imp λh=>bZ h) λp hp=>cm.mpr (rE g D' ((m p).mp hp))
 rw [gG] at this;omega
theorem tU{a b c M:List Nat}(ha:a.Nodup)(hb:b.Nodup)(xU:∀p∈a,p∉b)(hc:c.Pairwise (·<·))(m:∀p,p∈c↔p∈a∨p∈b)(pm:M.Perm (a++b))(s:M.Pairwise (·≤·)):M=c:=by
 have Cw:(a++b).Nodup:=dX.mpr ⟨ha,hb,λx hx y hy e=>xU x hx (e▸hy)⟩;have nc:c.Nodup:=hc.imp λh=>bZ h;refine yr s (yK hc) (pm.trans ((t9 Cw nc).mpr λp=>?_));rw [cq,m]
theorem tD:FnOk P w Z.K mg base cE 4 T.d__law_parts.f T.d__law_parts.fd ["_law_web_here","_law_ring","_law_some","_law_number"] (aV Z FR):=by
 have nd:=kU.nd;refine bo T.d__law_parts.F kU [0,0,0,0,0,0,0,0,0] (by decide) (λds R h=>by obtain ⟨_,_,_,_,_,rfl,_⟩:=h;rfl) (λbz A outer s H E ds R hr h=>?_)
 have hu:=hr.units
 refine ⟨_,(ah (nU (bC (aa 2) (aB cA (aa 3) (ax aO rfl T.B.len aN (ab (aa 2) ag)))) (eZ 2 rfl (aY (aL 4 nd) (aY (aL 5 nd) cH))))
   (ah (nU (az T.d_parted ((yB T).imp AJ) hr (ab (aa 1) (ab (aa 4) (ab (aa 5) ag)))) (eZ 2 rfl (aY (aL 6 nd) (aY (aL 7 nd) cH))))
   (ah (aE false 8 nd (aB bJ (az T.d_points_within (cL T) hr (ab (aa 0) (ab (aa 6) ag))) (az T.d_points_within (cL T) hr (ab (aa 0) (ab (aa 7) ag)))))
   (ah (bT (DW.dt (sC (bg pV (ax aO rfl T.B.len aN (ab (aa 6) ag)) ar (bp _)) (sC (bg pV (ax aO rfl T.B.len aN (ab (aa 7) ag)) ar (bp _)) (rB (bg (Ak hu) (ax pI rfl T.B.sorted gX (ab (aa 8) ag)) (az T.d_points_within (cL T) hr (ab (aa 0) (ab (aa 1) ag))) (bp _)))))) (ao (aI cJ)) ba)
   (ao (aI (cn (ab (aa 6) (ab (aa 7) ag))))))))),?_⟩
 obtain ⟨w',R',A',cs,num,rfl,g,B,bw,D',v8,cl,hc,q⟩:=h;have Ti:=D'.oV g;have CN:=Ti.qc g;have lc:(cs.map pairD).length=cs.length:=aJ _;have aR:0<cs.length:=ue.mpr v8;have e0:(0:Int)<((cs.map pairD).length:Int):=by rw [lc];omega
 have m1:=gk num ((cs.map pairD).length:Int) e0;obtain ⟨a,ea⟩:∃a:Nat,num%((cs.map pairD).length:Int)=(a:Int):=⟨(num%((cs.map pairD).length:Int)).toNat,by omega⟩
 rw [ea,lc] at m1;have ha:a<cs.length:=by omega
 have ML:fU (cs.map pairD) (num%((cs.map pairD).length:Int))=some (pairD cs[a]):=by
  rw [ea];exact gN (by rw [eJ,bq ha];rfl)
 have Ja:=hc cs[a].1 cs[a].2 (mH ha);generalize cs[a]=t at ML Ja;obtain ⟨h1,h2,h3⟩:=Ja;refine ⟨_,rfl,_,rfl,_,rfl,e0,_,ML,rfl,rfl,?_⟩;refine ⟨_,rfl,_,rfl,_,rfl,R',t.1,t.2,rfl,by omega,h1,h2,rfl,rfl,?_⟩
 obtain ⟨A1,A2,E1,E2,ik,xU⟩:=zo g B D' h1 h2 h3;have l1:((R'.take (t.2+1)).drop t.1).length=t.2+1-t.1:=by rw [eN,b8];omega
 have l2:(R'.drop t.2++R'.take (t.1+1)).length=R'.length-t.2+(t.1+1):=by rw [cj,eN,b8];omega
 generalize Ej:(R'.take (t.2+1)).drop t.1=R1 at E1 ik xU l1;generalize ye:R'.drop t.2++R'.take (t.1+1)=R2 at E2 ik xU l2;have fY:=E1.len;have kG:=E2.len;refine ⟨_,rfl,_,rfl,w',R1,A1,rfl,g,bw,E1,λL1 s1 m1=>?_⟩;refine ⟨_,rfl,_,rfl,w',R2,A2,rfl,g,bw,E2,λL2 s2 m2=>?_⟩;have z1:=w9 g bw E1 s1 m1;have z2:=w9 g bw E2 s2 m2;refine ⟨by rw [aJ,aJ];exact small (by omega),trivial,?_⟩
 refine tm [some (.dN w'),some (ai R'),some (.lst (cs.map pairD)),some (.int num),some (af t.1),some (af t.2),some (ai R1),some (ai R2),some (ai (L1++L2))] (by unfold ai;rw [dJ];rfl) ?_
 refine ⟨_,rfl,_,rfl,oj (decide_eq_false (by rw [aJ];omega)) ?_⟩
 refine ⟨_,rfl,_,rfl,oj (decide_eq_false (by rw [aJ];omega)) ?_⟩
 refine ⟨_,rfl,?_⟩;dsimp only [nM];refine lL (by rw [cj];omega) λM pm lV=>?_
 refine ⟨_,rfl,_,rfl,w',R',A',rfl,g,bw,D',λL s m=>?_⟩;have eM:M=L:=tU (s1.imp λh=>bZ h) (s2.imp λh=>bZ h) (λp h1 h2=>xU p ((m1 p).mp h1) ((m2 p).mp h2)) s (λp=>by rw [m,ik,m1,m2]) pm lV
 subst eM;refine sj ⟨_,rfl,oj (by rw [decide_eq_true rfl];rfl) ?_⟩
 exact ⟨_,rfl,_,rfl,by show 2≤sizeLine;decide,q R1 R2 A1 A2 E1 E2 (by omega) ik xU⟩
def HU:cZ:=λds P=>∃(w:W)(R:List Nat)(A:Nat×Nat→Prop),ds= [.dN w,ai R]∧Good w∧w.length≤14∧Disc w R A∧(∀i,i<R.length-1→R.getD (R.length-1) 0∉withinL w R i)∧
 ∀I R':List Nat,I.Nodup→I.length≤14→R'.length+1=R.length+I.length→((R'.length=2∧I= []∧∀p,¬cI R A p)∨(2<R'.length∧∃A',Disc w R' A'∧(∀p,cI R A p↔p∈I∨cI R' A' p)∧∀p∈I,¬cI R' A' p))→P (.tup [ai I,ai R'])
theorem uB:FnOk P w Z.K mg base cE 4 T.d__law_less.f T.d__law_less.fd ["_law_web_here","_law_ring"] (aV Z HU):=by
 have nd:=mx.nd;refine bo T.d__law_less.F mx [0,0,0,0,0] (by decide) (λds R h=>by obtain ⟨_,_,_,rfl,_⟩:=h;rfl) (λbz A outer s H E ds R hr h=>?_)
 have hu:=hr.units
 refine ⟨_,(ah (aE false 2 nd (az T.d_within_at ((fv T).imp AJ) hr (ab (aa 0) (ab (aa 1) (ab (aB gK (ax aO rfl T.B.len aN (ab (aa 1) ag)) ar) ag)))))
   (ah (aE false 3 nd (az T.d_made_less ((tu T).imp AJ) hr (ab (aa 0) (ab (aa 1) ag))))
   (ah (aE false 4 nd (cn ag))
   (ah (bT (bg wN (ax aO rfl T.B.len aN (ab (aa 3) ag)) ar (bp _)) (ao (aE false 4 nd (az T.d_points_within (cL T) hr (ab (aa 0) (ab (aa 3) ag))))) ba)
   (ah (bT (bg (Ak hu) (ax pI rfl T.B.sorted gX (ab (aB bJ (aa 2) (aa 4)) ag)) (az T.d_points_within (cL T) hr (ab (aa 0) (ab (aa 1) ag))) (bp _)) (ao (aI cJ)) ba)
   (ao (aI (ee (ab (aa 2) (ab (aa 3) ag)))))))))),?_⟩
 obtain ⟨w',R',A',rfl,g,bw,D',no,q⟩:=h;have Ti:=D'.oV g;have CN:=Ti.qc g;have h3:=D'.len;have lR:(R'.map af).length=R'.length:=aJ _;have sD:((R'.map af).length:Int)-1=((R'.length-1:Nat):Int):=by rw [lR];omega
 refine ⟨_,rfl,_,rfl,_,rfl,w',R',R'.length-1,by show [_,_,D.int (((R'.map af).length:Int)-1)]=_;rw [sD];rfl,g,bw,Ti,by omega,trivial,?_⟩
 refine ⟨_,rfl,_,rfl,w',R',rfl,g,bw,Ti,trivial,?_⟩;have nI:=mE g D' (i:=R'.length-1) (by omega)
 have lI:=iF g bw Ti (i:=R'.length-1) (by omega)
 have ik:=Cn g D' no
 have ll:(mW w' R').length+1=R'.length+(withinL w' R' (R'.length-1)).length:=by
  unfold mW;rw [cj,List.length_dropLast,pk];omega
 rw [show R'.dropLast++(withinL w' R' (R'.length-1)).reverse=mW w' R' from rfl] at ik;generalize withinL w' R' (R'.length-1)=I at nI lI ik ll;generalize mW w' R'=R2 at ik ll;have wI:(R2.map af).length=R2.length:=aJ _;refine ⟨by show 0≤sizeLine;decide,trivial,?_⟩
 refine ⟨_,rfl,?_⟩;dsimp only [nM,xH]
 rcases ik with ⟨c1,c2,c3⟩ | ⟨A2,E2,c2,c3⟩
 ·subst c2
  have l2:R2.length=2:=by simp at ll;omega
  refine ⟨_,rfl,oj (decide_eq_false (by rw [wI];omega)) ?_⟩
  refine ⟨_,rfl,_,rfl,by show 0≤sizeLine;decide,?_⟩
  dsimp only [nM];refine (?_:vX [ai []] _);refine lL (by decide) λM pm lV=>?_
  have eM:M= []:=pm.eq_nil;subst eM;refine ⟨_,rfl,_,rfl,w',R',A',rfl,g,bw,D',λL s m=>?_⟩;have eL:L= []:=List.eq_nil_iff_forall_not_mem.mpr λp hp=>c3 p ((m p).mp hp);subst eL;refine sj ⟨_,rfl,cy ?_⟩;exact ⟨_,rfl,_,rfl,by show 2≤sizeLine;decide,q [] R2 nI lI ll (.inl ⟨l2,rfl,c3⟩)⟩
 ·have l2:=E2.len
  refine ⟨_,rfl,Jd (decide_eq_true (by rw [wI];omega)) ?_⟩
  refine ⟨_,rfl,_,rfl,w',R2,A2,rfl,g,bw,E2,λL2 s2 m2=>⟨trivial,?_⟩⟩;have z2:=w9 g bw E2 s2 m2;refine ⟨_,rfl,_,rfl,by rw [aJ,aJ];exact small (by omega),?_⟩
  dsimp only [nM];rw [show (.lst (I.map af++L2.map af):D)=ai (I++L2) by unfold ai;rw [dJ]]
  refine lL (by rw [cj];omega) λM pm lV=>?_
  refine ⟨_,rfl,_,rfl,w',R',A',rfl,g,bw,D',λL s m=>?_⟩;have eM:M=L:=tU nI (s2.imp λh=>bZ h) (λp h1 h2=>c3 p h1 ((m2 p).mp h2)) s (λp=>by rw [m,c2,m2]) pm lV
  subst eM;refine sj ⟨_,rfl,oj (by rw [decide_eq_true rfl];rfl) ?_⟩
  exact ⟨_,rfl,_,rfl,by show 2≤sizeLine;decide,q I R2 nI lI ll (.inr ⟨by omega,A2,E2,c2,c3⟩)⟩
theorem Ea{l:List (Nat×Nat)}{P:D→Prop}(h:P (.bl l.isEmpty)):wd (.lst (l.map pairD)) (.lst []) P:=by
 have e:=zq (l:=l) (m:= []) (P:=P);refine e ?_
 have:decide (l= [])=l.isEmpty:=by cases l<;>rfl
 rw [this];exact h
def AH:cZ:=λds P=>∃(cs:List (Nat×Nat))(last:Nat)(num:Int),ds= [.lst (cs.map pairD),af last, .int num]∧cs.length≤400∧∀b:Bool,(b=true→cs≠ [])→(b=false→∀t∈cs,t.2≠last)→P (.bl b)
theorem oE:FnOk P w Z.K mg base cE 1 T.d__law_by_chord.f T.d__law_by_chord.fd ["_law_some","_law_last","_law_number"] (aV Z AH):=by
 have nd:=iB.nd;refine bo T.d__law_by_chord.F iB [0,0,0] (by decide) (λds R h=>by obtain ⟨_,_,_,rfl,_⟩:=h;rfl) (λbz A outer s H E ds R hr h=>?_)
 have hu:=hr.units
 refine ⟨_,(ah (bT (bg (iO hu) (aa 0) (cn ag) (bp _)) (ao (aI pJ)) ba)
   (ao (aI (Ke (jx (iO hu) (aB cA (aa 2) ar) ar (bp _)) (rh (jx (Ak hu) (sr (NC:= ["_law_two","_law_last"]) (src:= [none,some 1]) rfl (qN (au eD)) ⟨rfl,rfl,trivial⟩ (cx (aa 0)) (λ_ _ _=>(cw 0 (show (["_law_two","_law_last"]:List Str).Nodup from by decide+kernel))) (λ_ _ _=>(nW (bg (iO hu) (bC (aa 0) ar) (aa 1) (bp _)))) (λ_ _ _=>(aa 0))) (cn ag) (bp _))))))),?_⟩
 obtain ⟨cs,last,num,rfl,cl,q⟩:=h;refine ⟨_,rfl,by show 0≤sizeLine;decide,?_⟩
 refine Ea ⟨_,rfl,dG (λe=>?_) (λe=>?_)⟩
 ·have:cs= []:=by simpa using e
  subst this;exact q false (λz=>absurd z (by decide)) λ_ t ht=>nomatch ht
 ·have ne:cs≠ []:=λz=>by rw [z] at e;exact absurd e (by decide)
  refine ⟨_,rfl,(by show (0:Int)<3;decide),GF ⟨_,rfl,dG (λ_=>q true (λ_=>ne) λz=>absurd z (by decide)) (λ_=>?_)⟩⟩
  refine ⟨_,rfl,kF (ρ:= [none,some (af last)]) pairD (λt=>decide (t.2=last)) pairD cs _ [] _ (λt ht Y Nn t1 t2=>?_) ⟨none,rfl⟩ (by rw [pC,qi];exact small (by omega)) λaA=>?_⟩
  ·refine ⟨_,rfl,_,rfl,_,rfl,?_⟩
   refine (?_:wd (.int (t.2:Int)) (.int (last:Int)) _);refine sh ⟨_,rfl,?_⟩;rw [show decide ((t.2:Int)=(last:Int))=decide (t.2=last) from decide_eq_decide.mpr (by omega)]
   exact dG (λe=>⟨_,rfl,t1 e⟩) (λe=>t2 e)
  ·rw [kZ]
   refine ⟨by show 0≤sizeLine;decide,ne_nil (hV Fw _) (nP _) ?_⟩
   refine q _ (λ_=>ne) λz t ht hl=>?_
   have:t∈cs.filter λt=>decide (t.2=last):=j7.mpr ⟨ht,decide_eq_true hl⟩
   cases e:cs.filter λt=>decide (t.2=last) with
   |nil=>rw [e] at this;cases this
   |cons a l=>rw [e] at z;exact Bool.noConfusion z
open Classical in
noncomputable def cV(w:W)(R:List Nat)(A:Nat×Nat→Prop):List Nat:=(List.range w.length).filter λp=>decide (cI R A p)
theorem i8{w:W}{R:List Nat}{A:Nat×Nat→Prop}(g:Good w)(D':Disc w R A)(p:Nat):p∈cV w R A↔cI R A p:=by
 classical
 unfold cV;rw [j7,cm,decide_eq_true_eq];exact ⟨λh=>h.2,λh=>⟨rE g D' h,h⟩⟩
theorem fX(w:W)(R:List Nat)(A:Nat×Nat→Prop):(cV w R A).Nodup:=by
 unfold cV;exact lq.filter _
noncomputable def tri(w:W)(R:List Nat)(A:Nat×Nat→Prop):Nat:=2*(cV w R A).length+R.length-2
abbrev RA:=List Nat×(Nat×Nat→Prop)
noncomputable def y4(w:W)(L:List RA):Nat:=(L.map λx=>tri w x.1 x.2).sum
noncomputable def q0(w:W)(L:List RA):Nat:=(L.map λx=>2*tri w x.1 x.2-1).sum
noncomputable def qt(w:W)(L:List RA):List Nat:=L.flatMap λx=>cV w x.1 x.2
def HV:cZ:=λds P=>∃(w:W)(R:List Nat)(A:Nat×Nat→Prop)(num:Int),ds= [.dN w,ai R, .int num]∧Good w∧kj w∧w.length≤14∧Disc w R A∧
 ∀(L:List RA)(I:List Nat)(k:Nat),(∀x∈L,Disc w x.1 x.2)→L.length≤2→I.length≤14→(cV w R A).Perm (I++qt w L)→y4 w L+k=tri w R A→q0 w L+2≤2*tri w R A→P (.tup [.lst (L.map λx=>ai x.1),ai I,af k])
theorem uC:FnOk P w Z.K mg base cE 5 T.d__law_step.f T.d__law_step.fd ["_law_web_here","_law_ring","_law_number"] (aV Z HV):=by
 have nd:=my.nd;refine bo T.d__law_step.F my [0,0,0,0,0,0,0,0,0] (by decide) (λds R h=>by obtain ⟨_,_,_,_,rfl,_⟩:=h;rfl) (λbz A outer s H E ds R hr h=>?_)
 have hu:=hr.units
 refine ⟨_,(ah (aE false 3 nd (az T.d_chords (An T) hr (ab (aa 0) (ab (aa 1) ag))))
   (ah (bT (iu (az T.d__law_by_chord (oE T) hr (ab (aa 3) (ab (aB gK (ax aO rfl T.B.len aN (ab (aa 1) ag)) ar) (ab (aa 2) ag))))) (ah (aE false 4 nd (az T.d__law_parts (tD T) hr (ab (aa 0) (ab (aa 1) (ab (aa 3) (ab (aB fu (aa 2) ar) ag))))))
   (ah (bT (bg m6 (aa 4) cJ (bp _)) (ao (aI cJ)) ba)
   (ao (aI (ee (ab (aa 4) (ab (cn ag) (ab ar ag)))))))) ba)
   (ah (aE false 5 nd (az T.d__law_less (uB T) hr (ab (aa 0) (ab (aa 1) ag))))
   (ah (bT (bg m6 (aa 5) cJ (bp _)) (ao (aI cJ)) ba)
   (ah (nU (aa 5) (eZ 2 rfl (aY (aL 6 nd) (aY (aL 7 nd) cH))))
   (ah (bT (bg pV (ax aO rfl T.B.len aN (ab (aa 7) ag)) ar (bp _)) (ao (aI (ee (ab (cn ag) (ab (aa 6) (ab (aB bJ (ax aO rfl T.B.len aN (ab (aa 6) ag)) ar) ag)))))) ba)
   (ah (aE false 8 nd (aB cA (aB fu (aa 2) ar) (ax aO rfl T.B.len aN (ab (aa 7) ag))))
   (ao (aI (ee (ab (cn (ab (aB bJ (bH (aa 7) (bA (aa 8)) bX) (bH (aa 7) bX (bA (aa 8)))) ag)) (ab (aa 6) (ab (aB bJ (ax aO rfl T.B.len aN (ab (aa 6) ag)) ar) ag))))))))))))),?_⟩
 obtain ⟨w',R',A',num,rfl,g,B,bw,D',q⟩:=h;have Ti:=D'.oV g;have CN:=Ti.qc g;have h3:=D'.len;have lR:(R'.map af).length=R'.length:=aJ _;have sD:((R'.map af).length:Int)-1=((R'.length-1:Nat):Int):=by rw [lR];omega
 refine ⟨_,rfl,_,rfl,w',R',A',rfl,g,B,bw,D',λcs nc sc mc=>⟨trivial,?_⟩⟩;have cl:cs.length≤400:=by have:=qk g B D' bw nc mc;omega
 refine ⟨_,rfl,_,rfl,_,rfl,cs,R'.length-1,num,by show [_,D.int (((R'.map af).length:Int)-1),_]=_;rw [sD];rfl,cl,λb GJ TM=>⟨rfl,?_⟩⟩
 have EB:=i8 g D';cases b with
 |true=>
  refine cD ?_;refine ⟨_,rfl,_,rfl,_,rfl,_,rfl,⟨by decide,by decide⟩,w',R',A',cs,_,rfl,g,B,bw,D',GJ rfl,cl,λi j h=>(mc i j).mp h,λR1 R2 A1 A2 E1 E2 hl ik xU=>⟨trivial,?_⟩⟩
  refine ⟨_,rfl,_,rfl,cy ?_⟩;refine ⟨_,rfl,by show 0≤sizeLine;decide,by show 3≤sizeLine;decide,?_⟩
  have i1:=i8 g E1;have i2:=i8 g E2
  have pm:(cV w' R' A').Perm (cV w' R1 A1++cV w' R2 A2):=by
   refine (t9 (fX ..) (dX.mpr ⟨fX ..,fX ..,λx hx y hy e=>xU x ((i1 x).mp hx) ((i2 x).mp (e▸hy))⟩)).mpr λp=>?_;rw [cq,EB,i1,i2,ik]
  have pl:=pm.length_eq;rw [cj] at pl;have k1:=E1.len;have k2:=E2.len;refine q [(R1,A1),(R2,A2)] [] 0 ?_ (bh 2) (by decide) (by show (cV w' R' A').Perm ([]++(cV w' R1 A1++(cV w' R2 A2++ [])));rw [kZ,j5];exact pm) ?_ ?_
  ·intro x hx
   rcases bQ.mp hx with rfl|hx
   ·exact E1
   ·rw [gF] at hx;rw [hx];exact E2
  ·show (tri w' R1 A1+(tri w' R2 A2+0))+0=_
   unfold tri;omega
  ·show (2*tri w' R1 A1-1+(2*tri w' R2 A2-1+0))+2≤_
   unfold tri;omega
 |false=>
  refine cy ?_;have no:∀i,i<R'.length-1→R'.getD (R'.length-1) 0∉withinL w' R' i:=λi hi h=>TM rfl (i,R'.length-1) ((mc _ _).mpr ⟨hi,by omega,h⟩) rfl
  refine ⟨_,rfl,_,rfl,w',R',A',rfl,g,bw,D',no,λI R2 nI lI hl ik=>⟨trivial,?_⟩⟩;have wI:(R2.map af).length=R2.length:=aJ _;have V5:(I.map af).length=I.length:=aJ _;refine ⟨_,rfl,_,rfl,cy ?_⟩;refine ⟨_,rfl,rfl,rfl,?_⟩;refine ⟨_,rfl,?_⟩;dsimp only [nM,xH]
  rcases ik with ⟨l2,rfl,c3⟩ | ⟨l2,A2,E2,c2,c3⟩
  ·refine ⟨_,rfl,Jd (decide_eq_true (by rw [wI];omega)) ?_⟩
   have e0:cV w' R' A'= []:=List.eq_nil_iff_forall_not_mem.mpr λp hp=>c3 p ((EB p).mp hp);have l3:R'.length=3:=by simp at hl;omega
   refine ⟨by show 0≤sizeLine;decide,_,rfl,_,rfl,by show 3≤sizeLine;decide,?_⟩
   refine q [] [] 1 (λx hx=>nomatch hx) (by decide) (by decide) (by rw [e0];exact .refl _) ?_ ?_
   ·show 0+1=_
    unfold tri;rw [e0];simp;omega
   ·show 0+2≤_
    unfold tri;rw [e0];simp;omega
  ·refine ⟨_,rfl,oj (decide_eq_false (by rw [wI];omega)) ?_⟩
   have k2:=(E2.oV g).qc g;have e1:(0:Int)<((R2.map af).length:Int):=by rw [wI];omega
   refine ⟨_,rfl,⟨by decide,by decide⟩,_,rfl,e1,trivial,?_⟩
   have m1:=gk (num / 3) ((R2.map af).length:Int) e1;refine tm [some (.dN w'),some (ai R'),some (.int num),some (.lst (cs.map pairD)),none,some (.tup [ai I,ai R2]),some (ai I),some (ai R2),some (.int (num / 3%((R2.map af).length:Int)))] rfl ?_;generalize num / 3%((R2.map af).length:Int)=at_ at m1;obtain ⟨a,rfl⟩:∃a:Nat,at_=(a:Int):=⟨at_.toNat,by omega⟩
   rw [wI] at m1;have ca:cutD (R2.map af) (some (a:Int)) none=(R2.drop a).map af:=by rw [dQ _ _ (by rw [wI];omega),lj]
   have cb:cutD (R2.map af) none (some (a:Int))=(R2.take a).map af:=by rw [dR _ _ (by rw [wI];omega),lh]
   have lW:(cutD (R2.map af) (some (a:Int)) none).length+(cutD (R2.map af) none (some (a:Int))).length≤sizeLine:=by
    rw [ca,cb,aJ,aJ,eN,b8];exact small (by omega)
   have er:(.lst (cutD (R2.map af) (some (a:Int)) none++cutD (R2.map af) none (some (a:Int))):D)=ai (R2.drop a++R2.take a):=by rw [ca,cb];unfold ai;rw [dJ]
   refine ⟨_,rfl,_,rfl,_,rfl,_,rfl,lW,by show 1≤sizeLine;decide,_,rfl,_,rfl,by show 3≤sizeLine;decide,?_⟩
   rw [er]
   have E3:Disc w' (R2.drop a++R2.take a) A2:=by
    have:=E2
    rw [←iH a R2] at this;exact this.AB
   have i3:=i8 g E3;have l3:=FE R2 a
   have mr:∀p,cI (R2.drop a++R2.take a) A2 p↔cI R2 A2 p:=λp=>by
    unfold cI;rw [cq,Or.comm,←cq,iH]
   generalize R2.drop a++R2.take a=R3 at E3 i3 l3 mr
   have pm:(cV w' R' A').Perm (I++cV w' R3 A2):=by
    refine (t9 (fX ..) (dX.mpr ⟨nI,fX ..,λx hx y hy e=>c3 x hx ((mr x).mp ((i3 x).mp (e▸hy)))⟩)).mpr λp=>?_;rw [cq,EB,i3,mr,c2]
   have pl:=pm.length_eq;rw [cj] at pl;have eq:(D.tup [.lst [ai R3],ai I, .int (((I.map af).length:Int)+1)])= .tup [.lst ([((R3,A2):RA)].map λx=>ai x.1),ai I,af (I.length+1)]:=by rw [V5];rfl
   refine (?_:R (D.tup [.lst [ai R3],ai I, .int (((I.map af).length:Int)+1)]));rw [eq];refine q [(R3,A2)] I (I.length+1) ?_ (by show 1≤2;decide) lI (by show (cV w' R' A').Perm (I++(cV w' R3 A2++ []));rw [j5];exact pm) ?_ ?_
   ·intro x hx
    rw [gF] at hx;rw [hx];exact E3
   ·show (tri w' R3 A2+0)+(I.length+1)=_
    unfold tri;omega
   ·show (2*tri w' R3 A2-1+0)+2≤_
    unfold tri;omega
variable {P:Program} {w:World} {mg:Str→Option Value} {base:Heap} {Z:DC} (T:Txt Z mg)
theorem y1(w:W)(a b:List RA):q0 w (a++b)=q0 w a+q0 w b:=by unfold q0;rw [dJ,List.sum_append]
theorem y6(w:W)(a b:List RA):y4 w (a++b)=y4 w a+y4 w b:=by unfold y4;rw [dJ,List.sum_append]
theorem u3(w:W)(a b:List RA):qt w (a++b)=qt w a++qt w b:=by unfold qt;rw [List.flatMap_append]
theorem qh(L:List RA){P:D→Prop}(h:P (.bl L.isEmpty)):wd (.lst (L.map λx=>ai x.1)) (.lst []) P:=by
 have e:=DH (v:=L.map (·.1)) (w:= []) (P:=P);unfold aM at e;rw [fK] at e;refine e ?_
 have:decide (L.map (·.1)= [])=L.isEmpty:=by cases L<;>rfl
 rw [this];exact h
theorem Hl:FnOk P w Z.K mg base cE 7 T.d_law.f T.d_law.fd ["_law_script"] (aV Z BK):=by
 have nd:=BI.nd;refine bo T.d_law.F BI [0,0,0,0,0,1,0,0,0,0,0,0] (by decide) (λds R h=>by obtain ⟨_,rfl,_⟩:=h;rfl) (λbz A outer s H E ds R hr h=>?_)
 have hu:=hr.units
 refine ⟨_,(ah (nU (az T.d__law_built (tw T) hr (ab (aa 0) ag)) (eZ 2 rfl (aY (aL 1 nd) (aY (aL 2 nd) cH))))
   (ah (aE false 3 nd (az T.d__law_web (wR T) hr (ab (aa 1) ag)))
   (ah (aE false 4 nd (az T.d__law_drawn (fw T) hr (ab (az T.d__law_cell_at (eu T) hr (ab (aa 0) (ab ar ag))) ag)))
   (ah (rz 5 nd (rm (ab (jw nG rfl T.B.list kv (ab (aa 2) ag)) ag)))
   (ah (aE false 6 nd (cn ag))
   (ah (aE false 7 nd ar)
   (ah (nV rfl PassesOwn.never (mN rfl T.B.range (ab ar ag)) (aL 8 nd) (ah (bT (bg (iO hu) (aa 5) (cn ag) (bp _)) (ao B3) ba)
   (ah (wj 9 5 nd)
   (ah (aE false 10 nd (az T.d__law_step (uC T) hr (ab (aa 3) (ab (aa 9) (ab (aB cA (aa 4) ar) ag)))))
   (ah (bT (DW.dt (sC (bg m6 (aa 10) cJ (bp _)) (rB (lH (iu (az T.d__law_is_ring (pY T) hr (ab (aa 3) (ab (aa 9) ag)))))))) (ao (aI pJ)) ba)
   (ah (aE false 4 nd (aB fu (aa 4) ar))
   (ah (D3 5 nd (bC (aa 10) ar))
   (ah (aE false 6 nd (aB bJ (aa 6) (bC (aa 10) ar)))
   (ao (aE false 7 nd (aB bJ (aa 7) (bC (aa 10) ar))))))))))))
   (ah (uT 11 (NC:= ["_law_point","_law_ring"]) (src:= [none,some 2]) rfl nd (qN (au xc)) ⟨rfl,rfl,trivial⟩ (mM rfl T.B.range (ab (ax aO rfl T.B.len aN (ab (aa 1) ag)) ag)) (λ_ _ _=>(cw 0 (show (["_law_point","_law_ring"]:List Str).Nodup from by decide+kernel))) (λ_ _ _=>(nW (bg pW (aa 0) (aa 1) (by with_unfolding_all rfl)))) (λ_ _ _=>(aa 0)))
   (ao (aI (lD (jx (iO hu) (aa 5) (cn ag) (bp _)) (lD (jx (iO hu) (ax pI rfl T.B.sorted gX (ab (aa 6) ag)) (aa 11) (bp _)) (rh (jx (iO hu) (aa 7) (aB gK (aB gK (aB rF ar (ax aO rfl T.B.len aN (ab (aa 1) ag))) (ax aO rfl T.B.len aN (ab (aa 2) ag))) ar) (bp _))))))))))))))),?_⟩
 obtain ⟨ns,rfl,wC,q⟩:=h;refine ⟨_,rfl,ns,rfl,λF R' g B h3 bw Fl=>?_⟩;have Ti:=Disc.oV Fl g;have CN:=Ti.qc g;have R3:=Ti.len;have lR:(R'.map af).length=R'.length:=aJ _;have lF:(F.map ai).length=F.length:=aJ _;refine ⟨rfl,rfl,?_⟩;refine ⟨_,rfl,F,rfl,g,by omega,bw,trivial,?_⟩
 refine ⟨_,rfl,ns,2,rfl,λv1=>⟨v1,rfl,λv2=>⟨trivial,?_⟩⟩⟩;refine ⟨_,rfl,by show 1≤sizeLine;decide,?_⟩
 refine ⟨by show 0≤sizeLine;decide,trivial,?_⟩
 refine ⟨trivial,?_⟩;refine ⟨⟨by decide,by decide⟩,?_⟩
 rw [show ((80:Int)).toNat=80 from rfl];have eI:=Fl.ik g (by omega)
 have mI:=i8 g Fl
 have tR:tri F R' (λd=>aF F d∧¬bG R' d.1 d.2)+R'.length+2=2*F.length:=by
  have pm:(cV F R' λd=>aF F d∧¬bG R' d.1 d.2).Perm ((List.range F.length).filter λp=>decide (p∉R')):=(t9 (fX ..) (lq.filter _)).mpr λp=>by
   rw [mI,eI,j7,cm,decide_eq_true_eq]
  have l1:=pm.length_eq
  have l2:((List.range F.length).filter λp=>decide (p∉R')).length+((List.range F.length).filter λp=>decide (p∈R')).length=F.length:=by
   have:=(List.filter_append_perm (λp=>decide (p∈R')) (List.range F.length)).length_eq
   rw [cj,gG] at this
   have e:(List.range F.length).filter (λp=>!decide (p∈R'))=(List.range F.length).filter λp=>decide (p∉R'):=by
    congr 1;funext p;simp
   rw [e] at this;omega
  have l3:((List.range F.length).filter λp=>decide (p∈R')).length=R'.length:=((t9 (lq.filter _) Ti.nd).mpr λp=>by
   rw [j7,cm,decide_eq_true_eq];exact ⟨λh=>h.2,λh=>⟨Ti.lt g h,h⟩⟩).length_eq
  unfold tri;omega
 have il:(cV F R' λd=>aF F d∧¬bG R' d.1 d.2).length≤14:=by
  have:=aU (m:=List.range F.length) (fX F R' _) λp hp=>cm.mpr ((eI p).mp ((mI p).mp hp)).1
  rw [gG] at this;omega
 have Mo:Disc F R' (λd=>aF F d∧¬bG R' d.1 d.2):=Fl;have Pt:=fX F R' (λd=>aF F d∧¬bG R' d.1 d.2);have Pq:∀p,p∈cV F R' (λd=>aF F d∧¬bG R' d.1 d.2)↔p<F.length∧p∉R':=λp=>(mI p).trans (eI p);clear mI eI;generalize (λd=>aF F d∧¬bG R' d.1 d.2)=A0 at tR il Mo Pt Pq;refine pL (λj ρ=>∃(L:List RA)(I:List Nat)(used:Nat)(num:Int)(o8 o9 Lu:Option D),ρ= [some (.jq ns),some (aM F),some (ai R'),some (.dN F),some (.int num),some (.lst (L.map λx=>ai x.1)),some (ai I),some (af used),o8,o9,Lu,none]∧(∀x∈L,Disc F x.1 x.2)∧(cV F R' A0).Perm (I++qt F L)∧y4 F L+used=tri F R' A0∧q0 F L+j≤60∧L.length≤1+j) ?_ ?_ ?_
 ·refine ⟨[(R',A0)],[],0,v2,none,none,none,rfl,λx hx=>?_,?_,?_,?_,bh _⟩
  ·rw [gF] at hx;rw [hx];exact Mo
  ·show (cV F R' A0).Perm ([]++(cV F R' A0++ []));rw [kZ,j5]
  ·show (tri F R' A0+0)+0=_;omega
  ·show (2*tri F R' A0-1+0)+0≤60;omega
 ·rintro j _ hj ⟨L,I,used,num,o8,o9,Lu,rfl,hL,pm,ht,hs,hlen⟩ A hA
  have Il:I.length≤14:=by have:=pm.length_eq;rw [cj] at this;omega
  refine ⟨_,rfl,by show 0≤sizeLine;decide,?_⟩
  rcases xp L with rfl| ⟨L',x,e⟩
  ·refine qh [] ⟨_,rfl,cD ?_⟩
   have pm:I.Perm (cV F R' A0):=by
    have:I++qt F []=I:=j5 _
    rw [this] at pm;exact pm.symm
   have ht:used=tri F R' A0:=by
    have:y4 F []=0:=rfl
    omega
   refine ⟨_,rfl,⟨by omega,by show ((F.map ai).length:Int)<2^62;omega⟩,?_⟩
   rw [show (((F.map ai).length:Int)).toNat=F.length by omega,ng]
   refine kF (ρ:= [none,some (ai R')]) af (λp=>decide (p∉R')) af (List.range F.length) _ [] _ (λp hp Y Nn t1 t2=>?_) ⟨none,rfl⟩ (by rw [pC,qi,gG];exact small (by omega)) λaA=>?_
   ·refine ⟨_,rfl,_,rfl,rfl,b6 _,_,rfl,?_⟩
    refine (?_:if (if true=true then !inD (af p) (R'.map af) else _)=true then _ else _);rw [if_pos rfl,g7,show (!decide (p∈R'))=decide (p∉R') by simp]
    exact dG (λe=>⟨_,rfl,t1 e⟩) (λe=>t2 e)
   rw [kZ];refine ⟨trivial,?_⟩;have so:((List.range F.length).filter λp=>decide (p∉R')).Pairwise (·<·):=List.pairwise_lt_range.filter _;have mo:∀p,p∈(List.range F.length).filter (λp=>decide (p∉R'))↔p<F.length∧p∉R':=λp=>by rw [j7,cm,decide_eq_true_eq]
   generalize (List.range F.length).filter (λp=>decide (p∉R'))=O at so mo;refine ⟨_,rfl,by show 0≤sizeLine;decide,?_⟩
   refine qh [] ⟨_,rfl,cD ?_⟩;refine ⟨_,rfl,?_⟩;dsimp only [nM];refine lL (by omega) λM W5 lV=>?_
   have eM:M=O:=by
    refine yr lV (yK so) (W5.trans (pm.trans ((t9 Pt (so.imp λh=>bZ h)).mpr λp=>?_)));rw [Pq,mo]
   subst eM;refine ⟨_,rfl,DD ⟨true,congrArg D.bl (decide_eq_true rfl),cD ?_⟩⟩;refine ⟨_,rfl,_,rfl, .inl ⟨by decide,by decide⟩,_,rfl,?_⟩
   refine sh ?_;rw [decide_eq_true (by dsimp only;rw [lR,lF];omega)]
   exact q
  ·rw [ze] at e
   subst e;refine qh (L'++ [x]) ⟨_,rfl,oj (by cases L'<;>rfl) ?_⟩
   refine ⟨L'.map λx=>ai x.1,ai x.1,by rw [dJ];rfl,?_⟩
   have Dx:=hL x (by simp)
   refine ⟨_,rfl,_,rfl,_,rfl,(by show (0:Int)<90;decide),F,x.1,x.2,_,rfl,g,B,bw,Dx,λL2 I2 k2 TK l2 i2 uE t2 s2=>⟨trivial,?_⟩⟩
   refine ⟨_,rfl,_,rfl,cy ?_⟩;refine ⟨_,rfl,_,rfl,F,x.1,rfl,g,bw,Dx.oV g,rfl,cy ?_⟩;refine ⟨_,rfl,⟨by decide,by decide⟩,trivial,?_⟩
   have ll:(L'++ [x]).length=L'.length+1:=by simp
   refine ⟨_,rfl,_,rfl,_,rfl,_,rfl,by rw [aJ,aJ];exact small (by omega),?_⟩
   refine ⟨_,rfl,_,rfl,_,rfl,by rw [aJ,aJ];exact small (by omega),trivial,?_⟩
   refine ⟨_,rfl,_,rfl,_,rfl,trivial,?_⟩;rw [y1] at hs;rw [y6] at ht;rw [u3] at pm;have e1:q0 F [x]=2*tri F x.1 x.2-1:=rfl;have e2:y4 F [x]=tri F x.1 x.2:=rfl;have e3:qt F [x]=cV F x.1 x.2:=by show cV F x.1 x.2++ []=_;rw [j5]
   refine hA _ ⟨L'++L2,I++I2,used+k2,num / 90,some (af j),some (ai x.1),some (.tup [.lst (L2.map λx=>ai x.1),ai I2,af k2]),?_,λy hy=>?_,?_,?_,?_,?_⟩
   ·rw [show ai (I++I2)= .lst (I.map af++I2.map af) by unfold ai;rw [dJ],show (L'++L2).map (λx:RA=>ai x.1)=L'.map (λx:RA=>ai x.1)++L2.map (λx:RA=>ai x.1) from dJ ..];rfl
   ·rcases cq.mp hy with hy|hy
    ·exact hL y (dW _ hy)
    ·exact TK y hy
   ·rw [u3]
    refine pm.trans ?_;rw [e3,mF];refine .append_left _ ?_;refine ((List.Perm.refl _).append uE).trans ?_;rw [←mF,←mF];exact (List.perm_append_comm).append_right _
   ·rw [y6];omega
   ·rw [y1];omega
   ·rw [cj];omega
 ·rintro _ ⟨L,I,used,num,o8,o9,Lu,rfl,hL,pm,ht,hs,hlen⟩
  omega
theorem all_mk{l:PySem.W.OpenLaw}{w:World}{K:PySem.W.Frag}{h:Heap}{mg:Str→Option Value}{fa C:Addr}{Md:Tok}(X:K.In h)(G:h.Ns mainGlobals mg)(TZ:mg "law"=some (.ref fa))
  {d0:Addr} {WK R4:Option Addr} {Xe:Array (Option Value)} {Wy VD SW WW MN Sz:Value}
  {d1:Addr} {WL R5:Option Addr} {Xf:Array (Option Value)} {Wz VE SX Fm MO SA:Value}
  {d2:Addr} {WM R6:Option Addr} {HQ:Array (Option Value)} {WA VF SY uE MP SD:Value}
  {d3:Addr} {WN R7:Option Addr} {Xg:Array (Option Value)} {WB VG S0 WX MQ SE:Value}
  {d4:Addr} {WO R8:Option Addr} {Xh:Array (Option Value)} {WC VH S5 WY MR SG:Value}
  {d5:Addr} {WQ R9:Option Addr} {Xi:Array (Option Value)} {WE VI S6 WZ MS SH:Value}
  {d6:Addr} {WR Sa:Option Addr} {Xj:Array (Option Value)} {WG VJ S7 W0 MT SJ:Value}
  {d7:Addr} {WS Sb:Option Addr} {Xk:Array (Option Value)} {WH VL S8 W2 MU SK:Value}
  {d8:Addr} {WT Sd:Option Addr} {Xl:Array (Option Value)} {WI VM S9 W3 MV SM:Value}
  {d9:Addr} {WU Se:Option Addr} {Xm:Array (Option Value)} {WJ VN Ta W4 MW SN:Value}
  {JH:Addr} {P0 Mv:Option Addr} {QS:Array (Option Value)} {PC O5 NG Ql Iu MY:Value}
  {JJ:Addr} {P1 Mw:Option Addr} {QT:Array (Option Value)} {PD O6 NH Qm Iv MZ:Value}
  {JK:Addr} {P2 Mx:Option Addr} {QU:Array (Option Value)} {PF O7 NI Qn Iw M1:Value}
  {JL:Addr} {P4 My:Option Addr} {QV:Array (Option Value)} {PH O8 NJ Qo Iy M3:Value}
  {JM:Addr} {P5 Mz:Option Addr} {QW:Array (Option Value)} {PJ O9 NK Qp Iz M4:Value}
  {JN:Addr} {P6 MA:Option Addr} {QX:Array (Option Value)} {PK Pa NL Qq IA M5:Value}
  {JO:Addr} {P7 MB:Option Addr} {QY:Array (Option Value)} {PL Pb NM Qr IB M6:Value}
  {JP:Addr} {P8 MC:Option Addr} {QZ:Array (Option Value)} {PM Pc NN Qs IC M7:Value}
  {JQ:Addr} {P9 MD:Option Addr} {Q0:Array (Option Value)} {PN Pd NO Qt ID M8:Value}
  {JR:Addr} {Qa ME:Option Addr} {Q1:Array (Option Value)} {PQ Pe NP Qu IE M9:Value}
  {JS:Addr} {Qb MF:Option Addr} {Q2:Array (Option Value)} {PR Pf NQ Qv IF Na:Value}
  {JT:Addr} {Qc MG:Option Addr} {Q3:Array (Option Value)} {PU Pg NS Qw IG Nb:Value}
  {JU:Addr} {Qd MH:Option Addr} {Q4:Array (Option Value)} {PV Ph NT Qx IH Nc:Value}
  {JV:Addr} {Qe MI:Option Addr} {Q5:Array (Option Value)} {PX Pj NU Qy II Nd:Value}
  {JW:Addr} {Qf MJ:Option Addr} {Q6:Array (Option Value)} {PY Pk NV Qz IJ Nf:Value}
  {JX:Addr} {Qg MK:Option Addr} {Q7:Array (Option Value)} {PZ Pl NW QA IK Ng:Value}
  {i0:Addr} {UG US:Option Addr} {Vb:Array (Option Value)} {Uz UM UZ U5 OZ Vh:Value}
  {i1:Addr} {UH UT:Option Addr} {Vc:Array (Option Value)} {UA UN U0 U6 O0 Vi:Value}
  {i2:Addr} {UI UU:Option Addr} {Vd:Array (Option Value)} {UB UO U1 U7 O1 Vj:Value}
  {i3:Addr} {UJ UW:Option Addr} {Ve:Array (Option Value)} {UC UP U2 U8 O2 Vk:Value}
  {i4:Addr} {UK UX:Option Addr} {Vf:Array (Option Value)} {UD UQ U3 U9 O3 Vl:Value}
  {i5:Addr} {UL UY:Option Addr} {Vg:Array (Option Value)} {UE UR U4 Va O4 Vm:Value}
  (gC:PySem.W.nsIn K mainGlobals "Web"=some (some (.ref C)))
  (a0:fM K "is_among" d0)
  (l0:dZ K "is_among" "is_among" kP d0 WK R4 Xe Wy VD SW WW MN Sz)
  (c0:PySem.W.codeIn K MN "is_among"=true)
  (k0:PySem.W.keepIn K (.ref d0)=true)
  (a1:fM K "alien_fault" d1)
  (l1:dZ K "alien_fault" "alien_fault" h8 d1 WL R5 Xf Wz VE SX Fm MO SA)
  (c1:PySem.W.codeIn K MO "alien_fault"=true)
  (k1:PySem.W.keepIn K (.ref d1)=true)
  (a2:fM K "self_fault" d2)
  (l2:dZ K "self_fault" "self_fault" iW d2 WM R6 HQ WA VF SY uE MP SD)
  (c2:PySem.W.codeIn K MP "self_fault"=true)
  (k2:PySem.W.keepIn K (.ref d2)=true)
  (a3:fM K "twice_fault" d3)
  (l3:dZ K "twice_fault" "twice_fault" ie d3 WN R7 Xg WB VG S0 WX MQ SE)
  (c3:PySem.W.codeIn K MQ "twice_fault"=true)
  (k3:PySem.W.keepIn K (.ref d3)=true)
  (a4:fM K "lone_fault" d4)
  (l4:dZ K "lone_fault" "lone_fault" iV d4 WO R8 Xh WC VH S5 WY MR SG)
  (c4:PySem.W.codeIn K MR "lone_fault"=true)
  (k4:PySem.W.keepIn K (.ref d4)=true)
  (a5:fM K "reached_from_first" d5)
  (l5:dZ K "reached_from_first" "reached_from_first" cB d5 WQ R9 Xi WE VI S6 WZ MS SH)
  (c5:PySem.W.codeIn K MS "reached_from_first"=true)
  (k5:PySem.W.keepIn K (.ref d5)=true)
  (a6:fM K "apart_fault" d6)
  (l6:dZ K "apart_fault" "apart_fault" ib d6 WR Sa Xj WG VJ S7 W0 MT SJ)
  (c6:PySem.W.codeIn K MT "apart_fault"=true)
  (k6:PySem.W.keepIn K (.ref d6)=true)
  (a7:fM K "first_fault" d7)
  (l7:dZ K "first_fault" "first_fault" ic d7 WS Sb Xk WH VL S8 W2 MU SK)
  (c7:PySem.W.codeIn K MU "first_fault"=true)
  (k7:PySem.W.keepIn K (.ref d7)=true)
  (a8:fM K "begun_at" d8)
  (l8:dZ K "begun_at" "begun_at" kO d8 WT Sd Xl WI VM S9 W3 MV SM)
  (c8:PySem.W.codeIn K MV "begun_at"=true)
  (k8:PySem.W.keepIn K (.ref d8)=true)
  (a9:fM K "within_at" d9)
  (l9:dZ K "within_at" "within_at" jO d9 WU Se Xm WJ VN Ta W4 MW SN)
  (c9:PySem.W.codeIn K MW "within_at"=true)
  (k9:PySem.W.keepIn K (.ref d9)=true)
  (RL:fM K "chords" JH)
  (VP:dZ K "chords" "chords" jk JH P0 Mv QS PC O5 NG Ql Iu MY)
  (Sg:PySem.W.codeIn K Iu "chords"=true)
  (Vn:PySem.W.keepIn K (.ref JH)=true)
  (RM:fM K "points_within" JJ)
  (VQ:dZ K "points_within" "points_within" eE JJ P1 Mw QT PD O6 NH Qm Iv MZ)
  (Sh:PySem.W.codeIn K Iv "points_within"=true)
  (Vo:PySem.W.keepIn K (.ref JJ)=true)
  (RN:fM K "parted" JK)
  (VR:dZ K "parted" "parted" qf JK P2 Mx QU PF O7 NI Qn Iw M1)
  (Si:PySem.W.codeIn K Iw "parted"=true)
  (Vp:PySem.W.keepIn K (.ref JK)=true)
  (RO:fM K "made_less" JL)
  (VS:dZ K "made_less" "made_less" jN JL P4 My QV PH O8 NJ Qo Iy M3)
  (Sj:PySem.W.codeIn K Iy "made_less"=true)
  (Vq:PySem.W.keepIn K (.ref JL)=true)
  (RP:fM K "_law_cell_at" JM)
  (VT:dZ K "_law_cell_at" "_law_cell_at" gn JM P5 Mz QW PJ O9 NK Qp Iz M4)
  (Sk:PySem.W.codeIn K Iz "_law_cell_at"=true)
  (Vr:PySem.W.keepIn K (.ref JM)=true)
  (RQ:fM K "_law_drawn" JN)
  (VU:dZ K "_law_drawn" "_law_drawn" iS JN P6 MA QX PK Pa NL Qq IA M5)
  (Sl:PySem.W.codeIn K IA "_law_drawn"=true)
  (Vs:PySem.W.keepIn K (.ref JN)=true)
  (RS:fM K "_law_grown" JO)
  (VV:dZ K "_law_grown" "_law_grown" iT JO P7 MB QY PL Pb NM Qr IB M6)
  (Sm:PySem.W.codeIn K IB "_law_grown"=true)
  (Vt:PySem.W.keepIn K (.ref JO)=true)
  (RT:fM K "_law_named" JP)
  (VW:dZ K "_law_named" "_law_named" dr JP P8 MC QZ PM Pc NN Qs IC M7)
  (Sn:PySem.W.codeIn K IC "_law_named"=true)
  (Vu:PySem.W.keepIn K (.ref JP)=true)
  (RU:fM K "_law_built" JQ)
  (VX:dZ K "_law_built" "_law_built" iR JQ P9 MD Q0 PN Pd NO Qt ID M8)
  (So:PySem.W.codeIn K ID "_law_built"=true)
  (Vv:PySem.W.keepIn K (.ref JQ)=true)
  (RV:fM K "_law_web" JR)
  (VY:dZ K "_law_web" "_law_web" iA JR Qa ME Q1 PQ Pe NP Qu IE M9)
  (Sq:PySem.W.codeIn K IE "_law_web"=true)
  (Vw:PySem.W.keepIn K (.ref JR)=true)
  (RW:fM K "_law_is_ring" JS)
  (VZ:dZ K "_law_is_ring" "_law_is_ring" gr JS Qb MF Q2 PR Pf NQ Qv IF Na)
  (Sr:PySem.W.codeIn K IF "_law_is_ring"=true)
  (Vx:PySem.W.keepIn K (.ref JS)=true)
  (RX:fM K "_law_parts" JT)
  (V0:dZ K "_law_parts" "_law_parts" iU JT Qc MG Q3 PU Pg NS Qw IG Nb)
  (Ss:PySem.W.codeIn K IG "_law_parts"=true)
  (Vy:PySem.W.keepIn K (.ref JT)=true)
  (RY:fM K "_law_less" JU)
  (V1:dZ K "_law_less" "_law_less" jL JU Qd MH Q4 PV Ph NT Qx IH Nc)
  (Su:PySem.W.codeIn K IH "_law_less"=true)
  (Vz:PySem.W.keepIn K (.ref JU)=true)
  (RZ:fM K "_law_by_chord" JV)
  (V2:dZ K "_law_by_chord" "_law_by_chord" eD JV Qe MI Q5 PX Pj NU Qy II Nd)
  (Sv:PySem.W.codeIn K II "_law_by_chord"=true)
  (VA:PySem.W.keepIn K (.ref JV)=true)
  (R0:fM K "_law_step" JW)
  (V3:dZ K "_law_step" "_law_step" jM JW Qf MJ Q6 PY Pk NV Qz IJ Nf)
  (Sw:PySem.W.codeIn K IJ "_law_step"=true)
  (VB:PySem.W.keepIn K (.ref JW)=true)
  (Mr:fM K "law" JX)
  (V4:dZ K "law" "law" xc JX Qg MK Q7 PZ Pl NW QA IK Ng)
  (Sx:PySem.W.codeIn K IK "law"=true)
  (VC:PySem.W.keepIn K (.ref JX)=true)
  (m0:PySem.W.findIn K (.ref C) "__init__"=some (some (.ref i0)))
  (f0:PySem.W.isFn K (.ref i0)=true)
  (Wk:dZ K "__init__" "Web.__init__" dk i0 UG US Vb Uz UM UZ U5 OZ Vh)
  (V6:PySem.W.codeIn K OZ "Web.__init__"=true)
  (Wd:PySem.W.keepIn K (.ref i0)=true)
  (m1:PySem.W.findIn K (.ref C) "many"=some (some (.ref i1)))
  (f1:PySem.W.isFn K (.ref i1)=true)
  (Wl:dZ K "many" "Web.many" qC i1 UH UT Vc UA UN U0 U6 O0 Vi)
  (V7:PySem.W.codeIn K O0 "Web.many"=true)
  (We:PySem.W.keepIn K (.ref i1)=true)
  (m2:PySem.W.findIn K (.ref C) "turns"=some (some (.ref i2)))
  (f2:PySem.W.isFn K (.ref i2)=true)
  (Wm:dZ K "turns" "Web.turns" gM i2 UI UU Vd UB UO U1 U7 O1 Vj)
  (V8:PySem.W.codeIn K O1 "Web.turns"=true)
  (Wf:PySem.W.keepIn K (.ref i2)=true)
  (m3:PySem.W.findIn K (.ref C) "ties"=some (some (.ref i3)))
  (f3:PySem.W.isFn K (.ref i3)=true)
  (Wn:dZ K "ties" "Web.ties" qD i3 UJ UW Ve UC UP U2 U8 O2 Vk)
  (V9:PySem.W.codeIn K O2 "Web.ties"=true)
  (Wg:PySem.W.keepIn K (.ref i3)=true)
  (m4:PySem.W.findIn K (.ref C) "tied"=some (some (.ref i4)))
  (f4:PySem.W.isFn K (.ref i4)=true)
  (Wo:dZ K "tied" "Web.tied" kN i4 UK UX Vf UD UQ U3 U9 O3 Vl)
  (Wa:PySem.W.codeIn K O3 "Web.tied"=true)
  (Wh:PySem.W.keepIn K (.ref i4)=true)
  (m5:PySem.W.findIn K (.ref C) "behind"=some (some (.ref i5)))
  (f5:PySem.W.isFn K (.ref i5)=true)
  (Wq:dZ K "behind" "Web.behind" mn i5 UL UY Vg UE UR U4 Va O4 Vm)
  (Wc:PySem.W.codeIn K O4 "Web.behind"=true)
  (Wi:PySem.W.keepIn K (.ref i5)=true)
  (WV:PySem.W.plainGet K C Str.empty=true)
  (zK:PySem.W.hasDictIn K C=true)
  (W6:PySem.W.plainOver K C=true)
  (Xc:PySem.W.findIn K (.ref C) "__setattr__"=some (some (.builtin "object.__setattr__")))
  (Wj:PySem.W.makesIn K C=true)
  (VO:PySem.W.keepIn K (.ref C)=true)
  (nR:PySem.W.findIn K (.ref C) "rows"=some none)
  (Sy:PySem.W.nsIn K mainGlobals "MOST_POINTS"=some (some (.int 14 Md)))
  (Rz:PySem.W.nsIn K mainGlobals "len"=some none)
  (Ii:PySem.W.nsIn K mainGlobals "range"=some none)
  (RB:PySem.W.nsIn K mainGlobals "max"=some none)
  (RC:PySem.W.nsIn K mainGlobals "min"=some none)
  (za:PySem.W.nsIn K mainGlobals "enumerate"=some none)
  (RF:PySem.W.nsIn K mainGlobals "zip"=some none)
  (Gg:PySem.W.nsIn K mainGlobals "sorted"=some none)
  (Rx:PySem.W.nsIn K mainGlobals "all"=some none)
  (xm:PySem.W.nsIn K mainGlobals "isinstance"=some none)
  (Ry:PySem.W.nsIn K mainGlobals "int"=some none)
  (Mi:PySem.W.nsIn K mainGlobals "bool"=some none)
  (Mj:PySem.W.nsIn K mainGlobals "list"=some none)
  (Ij:PySem.W.nsIn K mainGlobals "tuple"=some none)
  (RE:PySem.W.nsIn K mainGlobals "sum"=some none)
  (AV:PySem.W.nsIn K mainGlobals "reversed"=some none)
  (RD:PySem.W.nsIn K mainGlobals "set"=some none)
  :∃fd:FuncData,(∀(s:Shared)(v:Value),BindsTo s fd ⟨[v],[]⟩ [("_law_script",v)])∧∀base:Heap,K.In base→base.Ns mainGlobals mg→FnOk l.prog w K mg base cE 40 fa fd ["_law_script"] (L2.oT K):=by
 have e:=TZ.symm.trans (PySem.W.mg_of X G Mr);cases e;have E0:=n6 (st:=dk) Wk V6 Wd;have e0:=E0.binds (ps:= ["self","turns"]) (λ_ _ _ _ _ _ _ hl=>by obtain ⟨_,_,rfl⟩:=L2.kG hl;rfl)
 let Z:DC:=⟨K,C⟩
 let T:Txt Z mg:=⟨⟨PySem.W.mg_none_of X G Rz,PySem.W.mg_none_of X G Ii,PySem.W.mg_none_of X G RB,PySem.W.mg_none_of X G RC,PySem.W.mg_none_of X G za,PySem.W.mg_none_of X G RF,PySem.W.mg_none_of X G Gg,PySem.W.mg_none_of X G Rx,PySem.W.mg_none_of X G xm,PySem.W.mg_none_of X G Ry,PySem.W.mg_none_of X G Mi,PySem.W.mg_none_of X G Mj,PySem.W.mg_none_of X G Ij,PySem.W.mg_none_of X G RE,PySem.W.mg_none_of X G AV⟩,PySem.W.mg_none_of X G RD, .of X G a0 l0 c0 k0 (λ_ _ _ _ _ _ _ hl=>by obtain ⟨_,_,rfl⟩:=L2.kG hl;rfl), .of X G a1 l1 c1 k1 (λ_ _ _ _ _ _ _ hl=>by obtain ⟨_,rfl⟩:=L2.fY hl;rfl), .of X G a2 l2 c2 k2 (λ_ _ _ _ _ _ _ hl=>by obtain ⟨_,rfl⟩:=L2.fY hl;rfl), .of X G a3 l3 c3 k3 (λ_ _ _ _ _ _ _ hl=>by obtain ⟨_,rfl⟩:=L2.fY hl;rfl), .of X G a4 l4 c4 k4 (λ_ _ _ _ _ _ _ hl=>by obtain ⟨_,rfl⟩:=L2.fY hl;rfl), .of X G a5 l5 c5 k5 (λ_ _ _ _ _ _ _ hl=>by obtain ⟨_,rfl⟩:=L2.fY hl;rfl), .of X G a6 l6 c6 k6 (λ_ _ _ _ _ _ _ hl=>by obtain ⟨_,rfl⟩:=L2.fY hl;rfl), .of X G a7 l7 c7 k7 (λ_ _ _ _ _ _ _ hl=>by obtain ⟨_,rfl⟩:=L2.fY hl;rfl), .of X G a8 l8 c8 k8 (λ_ _ _ _ _ _ _ hl=>by obtain ⟨_,_,rfl⟩:=L2.kG hl;rfl), .of X G a9 l9 c9 k9 (λ_ _ _ _ _ _ _ hl=>by obtain ⟨_,_,_,rfl⟩:=L2.qx hl;rfl), .of X G RL VP Sg Vn (λ_ _ _ _ _ _ _ hl=>by obtain ⟨_,_,rfl⟩:=L2.kG hl;rfl), .of X G RM VQ Sh Vo (λ_ _ _ _ _ _ _ hl=>by obtain ⟨_,_,rfl⟩:=L2.kG hl;rfl), .of X G RN VR Si Vp (λ_ _ _ _ _ _ _ hl=>by obtain ⟨_,_,_,rfl⟩:=L2.qx hl;rfl), .of X G RO VS Sj Vq (λ_ _ _ _ _ _ _ hl=>by obtain ⟨_,_,rfl⟩:=L2.kG hl;rfl), .of X G RP VT Sk Vr (λ_ _ _ _ _ _ _ hl=>by obtain ⟨_,_,rfl⟩:=L2.kG hl;rfl), .of X G RQ VU Sl Vs (λ_ _ _ _ _ _ _ hl=>by obtain ⟨_,rfl⟩:=L2.fY hl;rfl), .of X G RS VV Sm Vt (λ_ _ _ _ _ _ _ hl=>by obtain ⟨_,rfl⟩:=L2.fY hl;rfl), .of X G RT VW Sn Vu (λ_ _ _ _ _ _ _ hl=>by obtain ⟨_,_,_,rfl⟩:=L2.qx hl;rfl), .of X G RU VX So Vv (λ_ _ _ _ _ _ _ hl=>by obtain ⟨_,rfl⟩:=L2.fY hl;rfl), .of X G RV VY Sq Vw (λ_ _ _ _ _ _ _ hl=>by obtain ⟨_,rfl⟩:=L2.fY hl;rfl), .of X G RW VZ Sr Vx (λ_ _ _ _ _ _ _ hl=>by obtain ⟨_,_,rfl⟩:=L2.kG hl;rfl), .of X G RX V0 Ss Vy (λ_ _ _ _ _ _ _ hl=>by obtain ⟨_,_,_,_,rfl⟩:=L2.Po hl;rfl), .of X G RY V1 Su Vz (λ_ _ _ _ _ _ _ hl=>by obtain ⟨_,_,rfl⟩:=L2.kG hl;rfl), .of X G RZ V2 Sv VA (λ_ _ _ _ _ _ _ hl=>by obtain ⟨_,_,_,rfl⟩:=L2.qx hl;rfl), .of X G R0 V3 Sw VB (λ_ _ _ _ _ _ _ hl=>by obtain ⟨_,_,_,rfl⟩:=L2.qx hl;rfl), .of X G Mr V4 Sx VC (λ_ _ _ _ _ _ _ hl=>by obtain ⟨_,rfl⟩:=L2.fY hl;rfl),⟨⟨WV,zK,W6,Xc⟩,nR⟩,PySem.W.mg_of X G gC,i0,_,E0,⟨Wj,m0,f0,VO⟩,e0, .of m1 f1 Wl V7 We (λ_ _ _ _ _ _ _ hl=>by obtain ⟨_,rfl⟩:=L2.fY hl;rfl), .of m2 f2 Wm V8 Wf (λ_ _ _ _ _ _ _ hl=>by obtain ⟨_,rfl⟩:=L2.fY hl;rfl), .of m3 f3 Wn V9 Wg (λ_ _ _ _ _ _ _ hl=>by obtain ⟨_,rfl⟩:=L2.fY hl;rfl), .of m4 f4 Wo Wa Wh (λ_ _ _ _ _ _ _ hl=>by obtain ⟨_,_,_,rfl⟩:=L2.qx hl;rfl), .of m5 f5 Wq Wc Wi (λ_ _ _ _ _ _ _ hl=>by obtain ⟨_,_,_,rfl⟩:=L2.qx hl;rfl),⟨Md,PySem.W.mg_of X G Sy⟩⟩
 exact ⟨_,λs v=> .of_eq rfl,λbase _ _=>(((Hl (P:=l.prog) (w:=w) (base:=base) T).mono (by decide)).imp (L2.G9 (Z:=Z)))⟩
theorem walk{l:PySem.W.OpenLaw}{q:Program}{loose:List Str}{XP:(Str→Option Value)→Heap→Prop}{YP:World→Heap→Prop}{d:DefRec}{K:Params→PySem.W.Frag}(hn:l.most=some 63)(zL:d.params.defaults= [])
  (hY:∀(w:World)(h:Heap),YP w h→(K w.params).In h)
  (F:∀(w:World)(mg:Str→Option Value)(fa:Addr)(h:Heap),(K w.params).In h→h.Ns mainGlobals mg→mg d.name=some (.ref fa)→
   ∃fd:FuncData,(∀(s:Shared)(u:Value),BindsTo s fd ⟨[u],[]⟩ [("_law_script",u)])∧∀base:Heap,(K w.params).In base→base.Ns mainGlobals mg→FnOk l.prog w (K w.params) mg base cE 40 fa fd ["_law_script"] (oT (K w.params))):
  PySem.W.WalkO q loose XP YP l.row.toRowW d [] (λf vs=>PySem.call f vs):=L2.Mg 40 (by decide) hn zL hY F
end mK
def PySem.W.Fast.tw14396808383756876842:Nat:=0
def PySem.W.Fast.tw13966620272535294012:Nat:=0
def PySem.W.Fast.tw14748505047820353434:Nat:=0
def PySem.W.Fast.tw11984272982552794026:Nat:=0
def PySem.W.Fast.tw7175382883112416500:Nat:=0
def PySem.W.Fast.tw10383466553471239848:Nat:=0
def PySem.W.Fast.tw4203867329642790889:Nat:=0
def PySem.W.Fast.tw18126860879295187127:Nat:=0
def PySem.W.Fast.tw16715366690996017267:Nat:=0
def PySem.W.Fast.tw17157621812539286313:Nat:=0
def PySem.W.Fast.tw12400785043991688564:Nat:=0
def PySem.W.Fast.tw10727974099268173452:Nat:=0
def PySem.W.Fast.tw6802216785783257401:Nat:=0
def PySem.W.Fast.tw8098227193753590625:Nat:=0
def PySem.W.Fast.tw1729552463202301000:Nat:=0
def PySem.W.Fast.tw1041131362236604262:Nat:=0
def PySem.W.Fast.tw1298999804066680348:Nat:=0
def PySem.W.Fast.tw13323008068888865959:Nat:=0
def PySem.W.Fast.tw14122909222380041837:Nat:=0
def PySem.W.Fast.tw11916906831759317101:Nat:=0
def PySem.W.Fast.tw18358422860152073193:Nat:=0
def PySem.W.Fast.tw3751492274905248075:Nat:=0
def PySem.W.Fast.tw2961307280434629500:Nat:=0
def PySem.W.Fast.tw17151864636893493431:Nat:=0
def PySem.W.Fast.tw11733885809363378604:Nat:=0
def PySem.W.Fast.tw16174277960792979120:Nat:=0
def PySem.W.Fast.tw13696494749776822828:Nat:=0
def PySem.W.Fast.tw8611099729134114046:Nat:=0
def PySem.W.Fast.tw3873081637882119542:Nat:=0
def PySem.W.Fast.tw2475787048705191457:Nat:=0
def PySem.W.Fast.tw13134586672045585120:Nat:=0
def PySem.W.Fast.tw3257799122937475072:Nat:=0
def PySem.W.Fast.tw11736664339962553924:Nat:=0
def PySem.W.Fast.tw10825783535524334253:Nat:=0
def PySem.W.Fast.tw10970697472347186885:Nat:=0
def PySem.W.Fast.tw3383731753778951524:Nat:=0
def PySem.W.Fast.tw18423463878155786222:Nat:=0
def PySem.W.Fast.tw5989839738440658869:Nat:=0
def PySem.W.Fast.tw17636448199109999680:Nat:=0
def PySem.W.Fast.tw13215430109608385256:Nat:=0
def PySem.W.Fast.tw14257606968086797478:Nat:=0
def PySem.W.Fast.tw16758769219490945831:Nat:=0
def PySem.W.Fast.tw11017717317558701269:Nat:=0
def PySem.W.Fast.tw9818921540607559637:Nat:=0
def PySem.W.Fast.tw17024018237977512323:Nat:=0
def PySem.W.Fast.tw11049735308138785300:Nat:=0
def PySem.W.Fast.tw16296923571065054351:Nat:=0
def PySem.W.Fast.tw6562799885525667700:Nat:=0
def PySem.W.Fast.tw17933080039589073212:Nat:=0
def PySem.W.Fast.tw16236417078906412790:Nat:=0
def PySem.W.Fast.tw7523524804457291211:Nat:=0
def PySem.W.Fast.tw12691277329061686695:Nat:=0
def PySem.W.Fast.tw17024930592329819796:Nat:=0
def PySem.W.Fast.tw16420662907859558595:Nat:=0
def PySem.W.Fast.tw6009172051879697852:Nat:=0
def PySem.W.Fast.tw12280645284445050183:Nat:=0
def PySem.W.Fast.tw8639399882208362666:Nat:=0
def PySem.W.Fast.tw12187143928837635079:Nat:=0
def PySem.W.Fast.tw10407060450965879328:Nat:=0
def PySem.W.Fast.tw3368309522447326278:Nat:=0
def PySem.W.Fast.tw14508116477941122259:Nat:=0
def PySem.W.Fast.tw17306638349843971500:Nat:=0
def PySem.W.Fast.tw11806872648585799179:Nat:=0
def PySem.W.Fast.tw4400375784176321573:Nat:=0
def PySem.W.Fast.tw7881074149125129560:Nat:=0
def PySem.W.Fast.tw15581590585028625935:Nat:=0
def PySem.W.Fast.tw15114226691156951758:Nat:=0
def PySem.W.Fast.tw15642606159091741972:Nat:=0
def PySem.W.Fast.tw11653364491261040323:Nat:=0
open PySem PySem.W PyProof.Rows
set_option maxRecDepth 100000 in
set_option maxHeartbeats 0 in
theorem PySem.Challenge.cw_mapdye_k34_whole_rings_led_down_holds : PySem.Challenge.rw_mapdye_k34_whole_rings_led_down.Holds := by
 w_on;o_law;k_head;(case hw=>w_witness2)
 k_fill
 refine mK.walk (l:=PySem.Challenge.rw_mapdye_k34_whole_rings_led_down) rfl rfl (λw h Y=>PySem.W.kIn_of Y) ?F
 case F=>
  intro w mg fa h KX G zP
  refine' mK.all_mk KX G zP ?_ ?_ ?_ ?_ ?_ ?_ ?_ ?_ ?_ ?_ ?_ ?_ ?_ ?_ ?_ ?_ ?_ ?_ ?_ ?_ ?_ ?_ ?_ ?_ ?_ ?_ ?_ ?_ ?_ ?_ ?_ ?_ ?_ ?_ ?_ ?_ ?_ ?_ ?_ ?_ ?_ ?_ ?_ ?_ ?_ ?_ ?_ ?_ ?_ ?_ ?_ ?_ ?_ ?_ ?_ ?_ ?_ ?_ ?_ ?_ ?_ ?_ ?_ ?_ ?_ ?_ ?_ ?_ ?_ ?_ ?_ ?_ ?_ ?_ ?_ ?_ ?_ ?_ ?_ ?_ ?_ ?_ ?_ ?_ ?_ ?_ ?_ ?_ ?_ ?_ ?_ ?_ ?_ ?_ ?_ ?_ ?_ ?_ ?_ ?_ ?_ ?_ ?_ ?_ ?_ ?_ ?_ ?_ ?_ ?_ ?_ ?_ ?_ ?_ ?_ ?_ ?_ ?_ ?_ ?_ ?_ ?_ ?_ ?_ ?_ ?_ ?_ ?_ ?_ ?_ ?_ ?_ ?_ ?_ ?_ ?_ ?_ ?_ ?_ ?_ ?_ ?_ ?_ ?_ ?_ ?_ ?_ ?_ ?_ ?_ ?_ ?_ ?_ ?_ ?_ ?_ ?_ ?_ ?_
  all_goals (try (show _=_;k_is))
