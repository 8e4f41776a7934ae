import PyProof.Rows.All
import Wide.All
import OpenK.AllK
import Wide.FinOn
import Lean
import PyProof.EqAt
import PyProof.EqKinds
import PyProof.TupleCall
import PyProof.RaisesMany
import KE.KSortTup
import PyProof.NeKinds
import PyProof.SetKind
import PyProof.SetRoads
import PyProof.SetNew
import PyProof.WalksS
import PyProof.CollectWalk
import PyProof.TupleKey
import PyProof.IsRules
import PyProof.InstEq
import KE.KRevIter
import PyProof.FitsBits
import PyProof.P3Eq
import PyProof.ListRange
import PyProof.MeetsSeq
import PyProof.DictRoadsH
import PyProof.DictTruth
import PyProof.MinMaxWalk
import PySem.Challenge.RW_mapdye_k67_whole_wheels_and_search
theorem ah{g:Prop}(h:∀G:Prop,(g->G)->G):g:=h g id
set_option hygiene false in
local macro_rules|`(tactic|rfl')=>`(tactic|refine ah fun G0 k0=>?_)
set_option hygiene false in
local macro_rules|`(tactic|ac_rfl)=>`(tactic|refine k0 ?_)
set_option Elab.async false
set_option linter.all false
set_option maxRecDepth 100000
abbrev bb:= @List.getD_eq_getElem?_getD
abbrev aI:= @List.length_map
abbrev bL:= @List.getElem?_eq_getElem
abbrev cT:= @List.getElem?_eq_some_iff
abbrev b8:= @List.mem_cons_of_mem
abbrev cw:= @List.mem_cons_self
abbrev br:= @Nat.le_refl
abbrev dG:= @List.length_append
abbrev cD:= @List.mem_cons
abbrev fe:= @List.size_toArray
abbrev cB:= @Bool.false_ne_true
abbrev dQ:= @List.mem_append_right
abbrev cL:= @List.getElem?_map
abbrev eQ:= @List.getElem?_eq_none
abbrev eS:= @List.mem_of_getElem?
abbrev cM:= @List.length_set
abbrev dD:= @List.length_cons
abbrev gE:= @List.getElem?_append_left
abbrev gF:= @List.getElem?_set_self
abbrev iH:= @List.getElem?_append_right
abbrev cH:= @Nat.ne_of_lt
abbrev eI:= @List.nodup_cons
abbrev fj:= @List.length_take
abbrev gG:= @List.getElem?_set_ne
abbrev eJ:= @List.mem_range
abbrev fc:= @List.map_append
abbrev cI:= @Nat.zero_le
abbrev dE:= @List.mem_map
abbrev dX:= @List.map_map
abbrev gK:= @Nat.lt_of_lt_of_le
abbrev gL:= @Bool.false_eq_true
abbrev fR:= @List.mem_append
abbrev gM:= @List.getElem?_set
abbrev gN:= @List.nodup_append
abbrev gH:= @Nat.le_of_not_lt
abbrev jB:= @List.mem_iff_getElem
abbrev jX:= @Array.getElem?_toList
abbrev iI:= @List.mem_singleton
abbrev kW:= @List.length_replicate
abbrev iJ:= @Bool.and_eq_true
abbrev iK:= @List.not_mem_nil
abbrev n6:= @List.getElem?_replicate
abbrev gI:= @Nat.lt_irrefl
abbrev mE:= @List.mem_append_left
abbrev iL:= @List.nodup_nil
abbrev jY:= @List.filter_cons
abbrev jZ:= @List.all_eq_true
abbrev kX:= @List.length_range
abbrev uc:= @Array.getD_eq_getD_getElem?
abbrev n9:= @Array.length_toList
abbrev kY:= @List.length_drop
abbrev kZ:= @List.getElem_mem
abbrev pA:= @List.getElem?_of_mem
abbrev og:= @Int.toNat_natCast
abbrev j0:= @List.map_cons
abbrev w6:= @Array.getElem?_eq_some_iff
abbrev mF:= @List.mem_filter
abbrev rZ:= @List.getD_cons_succ
abbrev pB:= @List.flatten_cons
abbrev pC:= @List.pairwise_map
abbrev w9:= @List.getElem?_take_of_lt
abbrev xa:= @List.idxOf_lt_length_iff
abbrev xb:= @List.set_eq_of_length_le
abbrev xf:= @List.getElem?_cons_succ
abbrev lb:= @Nat.sub_self
abbrev ud:= @List.getElem?_range
abbrev pD:= @List.append_nil
abbrev zk:= @Array.getElem?_eq_getElem
abbrev xg:= @List.length_singleton
abbrev mG:= @Nat.le_trans
abbrev r6:= @List.lookup_cons
abbrev r8:= @Nat.mod_eq_of_lt
abbrev xh:= @List.replicate_succ
abbrev zo:= @List.length_pos_of_mem
abbrev Cn:= @List.perm_ext_iff_of_nodup
abbrev zp:= @List.take_append_drop
abbrev Co:= @List.drop_eq_getElem_cons
abbrev ue:= @List.nil_append
abbrev xi:= @List.append_assoc
abbrev xj:= @List.ext_getElem?
abbrev r9:= @List.map_take
abbrev sg:= @List.map_drop
abbrev zr:= @List.length_reverse
abbrev xk:= @List.mem_flatten
abbrev pE:= @Nat.le_succ
abbrev Cp:= @List.drop_eq_nil_of_le
abbrev xn:= @List.length_nil
abbrev Cq:= @Nat.le_of_ble_eq_true
abbrev zt:= @List.flatMap_cons
abbrev Cr:= @List.length_pos_iff
abbrev Fy:= @List.length_eq_zero_iff
abbrev xo:= @Bool.true_and
abbrev Cs:= @List.getElem?_drop
abbrev zq93:= @List.mem_filterMap
abbrev Fz:= @List.take_of_length_le
abbrev Ct:= @Bool.eq_false_iff
abbrev Cu:= @List.getElem_take
abbrev xp:= @List.map_set
abbrev uf:= @Nat.mod_lt
abbrev Cv:= @Nat.lt_succ_self
abbrev wV:= @List.getElem_map
abbrev wW:= @List.mem_flatMap
abbrev tH:= @List.all_cons
abbrev Ew:= @Array.perm_iff_toList_perm
abbrev Ex:= @List.nodup_iff_pairwise_ne
abbrev Az:= @List.flatten_append
abbrev wX:= @List.all_append
abbrev Ey:= @List.getElem?_zip_eq_some
abbrev Ez:= @List.pairwise_iff_getElem
abbrev AA:= @List.getElem_idxOf
abbrev wY:= @Bool.false_and
abbrev wZ:= @Bool.xor_false
namespace L2
open PySem PySem.Spec PyProof.Rows
abbrev Key:=Sum Int Str
def Jj:Key->Value->Bool
 | .inl k,v=>Value.isInt k v
 | .inr x,v=>Value.isStrOf x v
def W6(w:World):Key->Int
 | .inl k=>hashInt k
 | .inr x=>hashStr w x
theorem cP:∀{k:Key}{v:Value},Jj k v=true->(∃i t,k=Sum.inl i/\v=Value.int i t)\/(∃x t,k=Sum.inr x/\v=Value.str x t)
 | .inl i,v,h=>by
  obtain⟨t,e⟩:=Value.isInt_shape (k:=i) (v:=v) h;exact .inl ⟨i,t,rfl,e⟩
 | .inr x,v,h=>by
  obtain⟨t,e⟩:=Value.isStrOf_shape (x:=x) (v:=v) h;exact .inr ⟨x,t,rfl,e⟩
theorem L5(a b:Int):decide ((Sum.inl a:Key)=Sum.inl b)=(a==b):=by
 by_cases e:a=b
 ·subst e;simp
 ·have h:¬(Sum.inl a:Key)=Sum.inl b:=λq=>e (Sum.inl.inj q)
  rw[decide_eq_false h];exact(beq_eq_false_iff_ne.mpr e).symm
theorem L9(a b:Str):decide ((Sum.inr a:Key)=Sum.inr b)=decide (a=b):=by
 by_cases e:a=b
 ·subst e;simp
 ·have h:¬(Sum.inr a:Key)=Sum.inr b:=λq=>e (Sum.inr.inj q)
  rw[decide_eq_false h,decide_eq_false e]
theorem L6(a:Int)(b:Str):decide ((Sum.inl a:Key)=Sum.inr b)=false:=decide_eq_false (λq=>nomatch q)
theorem L8(a:Str)(b:Int):decide ((Sum.inr a:Key)=Sum.inl b)=false:=decide_eq_false (λq=>nomatch q)
def vU(prog:Program)(w:World):PySem.KeyKind prog w Key where
 is:=Jj
 hash:=W6 w
 inj:=λv a b ha hb=>by
  rcases cP ha with ⟨i,t,rfl,rfl⟩ | ⟨x,t,rfl,rfl⟩
  ·rcases cP hb with ⟨j,u,rfl,e⟩ | ⟨y,u,rfl,e⟩
   ·injection e with e1 _;rw[e1]
   ·exact nomatch e
  ·rcases cP hb with ⟨j,u,rfl,e⟩ | ⟨y,u,rfl,e⟩
   ·exact nomatch e
   ·injection e with e1 _;rw[e1]
 byValue:=λk v h=>by
  rcases cP h with ⟨i,t,rfl,rfl⟩ | ⟨x,t,rfl,rfl⟩<;>rfl
 pyHash:=λhv h=>by
  rcases cP hv with ⟨i,t,rfl,rfl⟩ | ⟨x,t,rfl,rfl⟩
  ·exact wpAny_pyHash_int h
  ·exact wpAny_pyHash_str h
 eqBool:=λhu hv h=>by
  rcases cP hu with ⟨i,t,rfl,rfl⟩ | ⟨x,t,rfl,rfl⟩
  ·rcases cP hv with ⟨j,u,rfl,rfl⟩ | ⟨y,u,rfl,rfl⟩
   ·rw[L5] at h;exact wpAny_eqBool_int h
   ·rw[L6] at h;exact SeqAt.EqAt.int_str i t y u _ _ _ _ h
  ·rcases cP hv with ⟨j,u,rfl,rfl⟩ | ⟨y,u,rfl,rfl⟩
   ·rw[L8] at h;exact SeqAt.EqAt.str_int x t j u _ _ _ _ h
   ·rw[L9] at h;exact wpAny_eqBool_str h
 «strs»:=λk x t v h=>by
  rcases cP h with ⟨i,u,rfl,e⟩ | ⟨y,u,rfl,e⟩
  ·exact nomatch e
  ·injection e with e1 _
   subst e1;cases v<;>rfl
inductive V where
 |aZ|bl (b:Bool) |int (i:Int) |str (x:Str) |FI (b:Array UInt8) |CW (b:UInt64) |ref (a:Addr) |ty (n:String)
 deriving DecidableEq
def RelV:V->Value->Prop
 | .aZ,u=>u=Value.none
 | .bl b,u=>u=Value.bool b
 | .int i,u=>∃t,u=Value.int i t
 | .str x,u=>∃t,u=Value.str x t
 | .FI b,u=>∃t,u=Value.bytes b t
 | .CW b,u=>∃t,u=Value.float b t
 | .ref a,u=>u=Value.ref a
 | .ty n,u=>u=Value.type n
abbrev Vals:List V->List Value->Prop:=Paired RelV
theorem Vals.length{xs:List V}{us:List Value}(r:Vals xs us):xs.length=us.length:=Paired.length r
theorem Vals.get:∀{xs:List V}{us:List Value}{i:Nat}{x:V},Vals xs us->xs[i]? =some x->∃u,us[i]? =some u/\RelV x u
 |_,_,_,_, .nil,e=>by simp at e
 |_,_,0,_, .cons r _,e=>by simp at e;subst e;exact⟨_,rfl,r⟩
 |_,_,i+1,x, .cons _ t,e=>by
  obtain⟨u,h1,h2⟩:=Vals.get (i:=i) (x:=x) t (by simpa using e)
  exact⟨u,by simpa using h1,h2⟩
theorem Vals.set{x:V}{u:Value}(r:RelV x u):∀{xs:List V}{us:List Value}(i:Nat),Vals xs us->Vals (xs.set i x) (us.set i u)
 |_,_,_, .nil=> .nil
 |_,_,0, .cons _ t=> .cons r t
 |_,_,i+1, .cons q t=> .cons q (Vals.set r i t)
theorem Vals.append:∀{xs ys:List V}{us ws:List Value},Vals xs us->Vals ys ws->Vals (xs++ys) (us++ws)
 |_,_,_,_, .nil,s=>s
 |_,_,_,_, .cons r t,s=> .cons r (Vals.append t s)
theorem Vals.take:∀{xs:List V}{us:List Value}(n:Nat),Vals xs us->Vals (xs.take n) (us.take n)
 |_,_,0,_=> .nil
 |_,_,_+1, .nil=> .nil
 |_,_,n+1, .cons r t=> .cons r (Vals.take n t)
theorem Vals.drop:∀{xs:List V}{us:List Value}(n:Nat),Vals xs us->Vals (xs.drop n) (us.drop n)
 |_,_,0,r=>r
 |_,_,_+1, .nil=> .nil
 |_,_,n+1, .cons _ t=>Vals.drop n t
def mN:Option V->Option Value->Prop
 |some v,some u=>RelV v u
 |none,none=>True
 |_,_=>False
def KV{κ:Type}:List (κ×V)->List (κ×Value)->Prop:=Paired λ(p:κ×V)(q:κ×Value)=>p.1=q.1/\RelV p.2 q.2
def kV:Key->V
 | .inl i=> .int i
 | .inr x=> .str x
inductive HO where
  |lst (xs:List V)
  |tup (xs:List V)
  |dK (eL:List (Key×V)) |dT (eL:List (List Key×V))
  |set (S:Int->Bool) (n:Nat)
  |ins (C dx:Addr) (fs:List (Str×V))
  |own (x:Addr)
  |xd (fs:List (Str×V))
  |met (f x:Addr)
  |rng (lo hi:Int)
  |pL (o:Obj) (u:HO)
  |Ce (ps:Array Value)
  |ext (φ:Heap->Prop)
abbrev Hp:=Addr->Option HO
def upd(H:Hp)(a:Addr)(o:HO):Hp:=λb=>if b=a then some o else H b
theorem au{H:Hp}{a:Addr}{o:HO}:upd H a o a=some o:=by unfold upd;rw[if_pos rfl]
theorem aw{H:Hp}{a b:Addr}{o:HO}(h:b≠a):upd H a o b=H b:=by unfold upd;rw[if_neg h]
theorem aU{H:Hp}{a b:Addr}{o:HO}(h:H a=some o)(h':H b=none):a≠b:=by
 intro e;subst e;rw[h] at h';cases h'
section
variable (P:Program) (w:World)
def cO(H:Hp)(h:Heap)(a:Addr):HO->Prop
 | .lst xs=>xs.length<=sizeLine/\∃(its:List Value)(n:Nat),Vals xs its/\h.get? a=some {cls:= .type "list",data:= .seq its.toArray n}
 | .tup xs=>xs.length<=sizeLine/\∃its:List Value,Vals xs its/\IsTup h a its.toArray
 | .dK eL=>eL.length<=sizeLine/\(a==sysModules)=false/\∃vs,KV eL vs/\h.DictOf (vU P w) a vs
 | .dT eL=>eL.length<=sizeLine/\(a==sysModules)=false/\∃xs:List (List Key×Addr×Value),
   Paired (λ(p:List Key×V)(q:List Key×Addr×Value)=>p.1=q.1/\H q.2.1=some (.tup (p.1.map kV))/\RelV p.2 q.2.2) eL xs/\
   ∃o es ep,h.get? a=some o/\o.ExactDict/\o.data= .dict es ep/\es.toList=xs.map (entryOfKey (tupleKind (vU P w)))/\(xs.map (·.1)).Nodup
 | .set S n=>h.SetOf (intKind P w) a S n
 | .ins C dx fs=>H dx=some (.own a)/\fs.length<=1000/\dx≠a/\h.get? a=some (PySem.W.instObj C dx)/\
   ∃mA,h.Ns1 dx mA/\(∀f,mN (fs.lookup f) (mA f))/\PySem.Within mA (fs.map (·.1))
 | .own _=>∃o,h.get? a=some o
 | .xd fs=>∃mA,h.Ns1 a mA/\∀f,mN (fs.lookup f) (mA f)
 | .rng lo hi=>∃t u v,h.get? a=some {cls:= .type "range",data:= .fields #[.int lo t, .int hi u, .int 1 v]}
 | .pL o u=>h.get? a=some o/\cO H h a u
 | .Ce ps=>h.get? a=some {cls:= .none,data:= .fields ps}
 | .met f x=>h.get? a=some (PySem.W.methodObj (.ref f) (.ref x))
 | .ext φ=>φ h/\(∃o,h.get? a=some o)/\∀h1 h2:Heap,φ h1->(∀o,h1.get? a=some o->h2.get? a=some o)->φ h2
def iN(H:Hp)(h:Heap):Prop:=∀a o,H a=some o->cO P w H h a o
end
section
variable {P:Program} {w:World} {H H':Hp} {h h':Heap} {a:Addr} {o:HO}
theorem cO.lt(x:cO P w H h a o):a<h.objs.size:=by
 cases o with
 |lst xs=>obtain⟨_,_,_,_,e⟩:=x;exact Heap.lt_size e
 |tup xs=>obtain⟨_,_,_,p⟩:=x;exact p.lt
 |dK eL=>obtain⟨_,_,_,_,o,_,_,e,_⟩:=x;exact Heap.lt_size e
 |dT eL=>obtain⟨_,_,_,_,o,_,_,e,_⟩:=x;exact Heap.lt_size e
 |set S n=>obtain⟨o,_,_,_,e,_⟩:=x;exact Heap.lt_size e
 |ins C dx fs=>obtain⟨_,_,_,e,_⟩:=x;exact Heap.lt_size e
 |own y=>obtain⟨_,e⟩:=x;exact Heap.lt_size e
 |xd fs=>obtain⟨_,⟨_,_,_,e,_⟩,_⟩:=x;exact Heap.lt_size e
 |rng lo hi=>obtain⟨_,_,_,e⟩:=x;exact Heap.lt_size e
 |pL ob u=>obtain⟨e,_⟩:=x;exact Heap.lt_size e
 |Ce ps=>exact Heap.lt_size (show h.get? a=some _ from x)
 |met f y=>exact Heap.lt_size (show h.get? a=some _ from x)
 |ext φ=>obtain⟨_,⟨_,e⟩,_⟩:=x;exact Heap.lt_size e
theorem Paired.OJ{α β:Type}{F G:α->β->Prop}:∀{l₁:List α}{l₂:List β},Paired F l₁ l₂->(∀a b,F a b->G a b)->Paired G l₁ l₂
 |_,_, .nil,_=> .nil
 |_,_, .cons r t,f=> .cons (f _ _ r) (Paired.OJ t f)
theorem cO.rU(x:cO P w H h a o)(k:∀b u,(b=a\/H b=some (.own a))->h.get? b=some u->h'.get? b=some u)
  (ho:∀b,H b=some (.own a)->H' b=some (.own a)) (ht:∀b xs,H b=some (.tup xs)->H' b=some (.tup xs)):cO P w H' h' a o:=by
 induction o with
 |lst xs=>obtain⟨z,its,n,r,e⟩:=x;exact⟨z,its,n,r,k _ _ (.inl rfl) e⟩
 |tup xs=>obtain⟨z,its,r,ob,e,c⟩:=x;exact⟨z,its,r,ob,k _ _ (.inl rfl) e,c⟩
 |dK eL=>obtain⟨z,y,vs,r,ob,es,ep,e,c⟩:=x;exact⟨z,y,vs,r,ob,es,ep,k _ _ (.inl rfl) e,c⟩
 |dT eL=>
  obtain⟨z,y,xs,r,ob,es,ep,e,c⟩:=x;exact⟨z,y,xs,Paired.OJ r λp q z=>⟨z.1,ht _ _ z.2.1,z.2.2⟩,ob,es,ep,k _ _ (.inl rfl) e,c⟩
 |set S n=>obtain⟨ob,es,ep,t,e,c⟩:=x;exact⟨ob,es,ep,t,k _ _ (.inl rfl) e,c⟩
 |ins C dx fs=>
  rfl';obtain⟨d,z,ne,e,mA,⟨od,es,ep,e2,c⟩,r⟩:=x;ac_rfl;exact⟨ho _ d,z,ne,k _ _ (.inl rfl) e,mA,⟨od,es,ep,k _ _ (.inr d) e2,c⟩,r⟩
 |own y=>obtain⟨ob,e⟩:=x;exact⟨ob,k _ _ (.inl rfl) e⟩
 |xd fs=>obtain⟨mA,⟨od,es,ep,e,c⟩,r⟩:=x;exact⟨mA,⟨od,es,ep,k _ _ (.inl rfl) e,c⟩,r⟩
 |rng lo hi=>obtain⟨t,u,v,e⟩:=x;exact⟨t,u,v,k _ _ (.inl rfl) e⟩
 |pL ob u ih=>obtain⟨e,q⟩:=x;exact⟨k _ _ (.inl rfl) e,ih q⟩
 |Ce ps=>
  have e:h.get? a=some {cls:= .none,data:= .fields ps}:=x;show h'.get? a=some {cls:= .none,data:= .fields ps};exact k a _ (.inl rfl) e
 |met f y=>
  have e:h.get? a=some (PySem.W.methodObj (.ref f) (.ref y)):=x;show h'.get? a=some (PySem.W.methodObj (.ref f) (.ref y));exact k a _ (.inl rfl) e
 |ext φ=>obtain⟨p,⟨o,e⟩,st⟩:=x;exact⟨st _ _ p λo q=>k _ _ (.inl rfl) q,⟨o,k _ _ (.inl rfl) e⟩,st⟩
theorem iN.lt(x:iN P w H h)(e:H a=some o):a<h.objs.size:=(x a o e).lt
theorem iN.fresh(x:iN P w H h)(e:h.objs.size<=a):H a=none:=by
 cases q:H a with
 |none=>rfl
 |some u=>exact absurd (gK (x.lt q) e) (gI _)
theorem iN.kept(x:iN P w H h)(k:∀b u,h.get? b=some u->h'.get? b=some u):iN P w H h':=λa o e=>
 (x a o e).rU (λb u _ q=>k b u q) (λ_ q=>q) λ_ _ q=>q
theorem iN.laid(x:iN P w H h)(k:∀b u,h.get? b=some u->h'.get? b=some u)(hp:h.objs.size<=a)(new:cO P w (upd H a o) h' a o):iN P w (upd H a o) h':=λb u e=>by
 have hn:=x.fresh hp
 by_cases hb:b=a
 ·subst hb;rw[au] at e;cases e;exact new
 ·rw[aw hb] at e
  exact(x b u e).rU (λc v _ q=>k c v q) (λc q=>by rw[aw (aU q hn)];exact q) λc xs q=>by rw[aw (aU q hn)];exact q
end
def Rd(H:Hp)(a:Addr)(u:HO):Prop:=H a=some u\/∃o,H a=some (.pL o u)
theorem Rd.ok{P:Program}{w:World}{H:Hp}{h:Heap}{a:Addr}{u:HO}(r:Rd H a u)(x:iN P w H h):cO P w H h a u:=by
 rcases r with r| ⟨o,r⟩
 ·exact x a u r
 ·obtain⟨_,q⟩:=x a _ r
  exact q
def Ld:Option HO->Prop
 |some (.lst _)=>True
 |some (.dK _)=>True
 |some (.dT _)=>True
 |some (.set _ _)=>True
 |some (.ins _ _ _)=>True
 |some (.ext _)=>True
 |_=>False
section
variable {P:Program} {w:World} {H:Hp} {h h':Heap} {x e:Addr} {o':HO}
theorem iN.write(ok:iN P w H h)(mu:Ld (H x))(he:e=x\/H e=some (.own x))(k:∀b u,b≠e->h.get? b=some u->h'.get? b=some u)(Gh:∃u,h'.get? e=some u)
  (new:cO P w (upd H x o') h' x o'):iN P w (upd H x o') h':=λb u q=>by
 have ON:∀c y,H c=some (.own y)->c≠x:=λc y r z=>by subst z;rw[r] at mu;exact mu
 have Xl:∀c xs,H c=some (.tup xs)->c≠x:=λc xs r z=>by subst z;rw[r] at mu;exact mu
 by_cases hb:b=x
 ·subst hb;rw[au] at q;cases q;exact new
 ·rw[aw hb] at q
  by_cases C2:b=e
  ·have q':H b=some (.own x):=by
    rcases he with z|z
    ·exact absurd (C2.trans z) hb
    ·rw[C2];exact z
   obtain⟨v,hv⟩:=Gh;rw[q] at q';cases q';exact⟨v,by rw[C2];exact hv⟩
  ·refine(ok b u q).rU (λc v hc r=>k c v ?_ r) (λc r=>by rw[aw (ON c b r)];exact r) λc xs r=>by rw[aw (Xl c xs r)];exact r
   rcases hc with rfl|hc
   ·exact C2
   ·rintro rfl
    rcases he with z|z
    ·exact ON c b hc z
    ·rw[hc] at z;cases z;exact hb rfl
end
structure Un (fs ex:List Addr) (H H':Hp) (h h':Heap):Prop where
 keep:∀b o,h.get? b=some o->H b=none->b∉fs->b∉ex->h'.get? b=some o
 slot:∀b o,h.get? b=some o->H b=none->b∈fs->b∉ex->∃sl,h'.get? b=some {o with slots:=sl}
 free:∀b o,h.get? b=some o->H b=none->b∉ex->H' b=none
 there:∀b o,h.get? b=some o->b∉ex->∃o',h'.get? b=some o'
 tups:∀b xs,H b=some (.tup xs)->H' b=some (.tup xs)
 frzs:∀b o u,H b=some (.pL o u)->H' b=some (.pL o u)
 tbls:∀b ps,H b=some (.Ce ps)->∃more,H' b=some (.Ce (ps++more))
section
variable {fs Qp ex ex':List Addr} {H H1 H2:Hp} {h h1 h2 h':Heap} {a x e:Addr} {o:HO}
theorem Un.any(u:Un fs ex H H1 h h1){b:Addr}{ob:Obj}(q:h.get? b=some ob)(n:H b=none)(hx:b∉ex):∃sl,h1.get? b=some {ob with slots:=sl}:=by
 by_cases hb:b∈fs
 ·exact u.slot b ob q n hb hx
 ·exact⟨ob.slots,u.keep b ob q n hb hx⟩
theorem Un.kept(k:∀b u,h.get? b=some u->h'.get? b=some u):Un fs ex H H h h':=
 ⟨λb ob q _ _ _=>k b ob q,λb ob q _ _ _=>⟨ob.slots,k b ob q⟩,λ_ _ _ n _=>n,λb ob q _=>⟨ob,k b ob q⟩,λ_ _ q=>q,λ_ _ _ q=>q,λ_ ps q=>⟨#[],by rw[q];simp⟩⟩
theorem Un.refl:Un fs ex H H h h:=Un.kept λ_ _ q=>q
theorem Un.laid(k:∀b u,h.get? b=some u->h'.get? b=some u)(hp:h.objs.size<=a)(hn:H a=none):Un fs ex H (upd H a o) h h' where
 keep:=λb u q _ _ _=>k b u q
 slot:=λb u q _ _ _=>⟨u.slots,k b u q⟩
 free:=λb u q n _=>by rw[aw (cH (gK (Heap.lt_size q) hp))];exact n
 there:=λb u q _=>⟨u,k b u q⟩
 tups:=λb xs q=>by rw[aw (aU q hn)];exact q
 frzs:=λb u xs q=>by rw[aw (aU q hn)];exact q
 tbls:=λb ps q=>⟨#[],by rw[aw (aU q hn),q];simp⟩
theorem Un.write(mu:Ld (H x))(he:e=x\/H e=some (.own x))(k:∀b u,b≠e->h.get? b=some u->h'.get? b=some u)(Gh:∃u,h'.get? e=some u):Un fs ex H (upd H x o) h h':=by
 have hx:∀b,H b=none->b≠x:=λb n z=>by subst z;rw[n] at mu;exact mu
 have hb:∀b,H b=none->b≠e:=λb n z=>by
  subst z
  rcases he with r|r
  ·exact hx b n r
  ·rw[n] at r;cases r
 have hm:∀b u,H b=some u->¬Ld (some u)->b≠x:=λb u q nm z=>by subst z;rw[q] at mu;exact nm mu
 refine⟨λb u q n _ _=>k b u (hb b n) q,λb u q n _ _=>⟨u.slots,k b u (hb b n) q⟩,λb u q n _=>by rw[aw (hx b n)];exact n,λb u q _=>?_,
  λb xs q=>by rw[aw (hm b _ q λz=>z)];exact q,λb u xs q=>by rw[aw (hm b _ q λz=>z)];exact q,λb ps q=>⟨#[],by rw[aw (hm b _ q λz=>z),q];simp⟩⟩
 by_cases C2:b=e
 ·subst C2;exact Gh
 ·exact⟨u,k b u C2 q⟩
end
def Np(h:Heap)(H:Hp):List Addr:=(List.range h.objs.size).filter λa=>(H a).isSome
def qJ(h:Heap)(H:Hp):Heap:=PySem.W.hideAll h (Np h H)
theorem C6(h:Heap)(H:Hp):(qJ h H).objs.size=h.objs.size:=PySem.W.hideAll_size _ _
theorem Gi{h:Heap}{H:Hp}{b:Addr}{o:Obj}(e:h.get? b=some o)(n:H b=none):(qJ h H).get? b=some o:=
 PySem.W.hideAll_get _ e λhm=>by
  have q:(H b).isSome=true:=(mF.mp hm).2;rw[n] at q;simp at q
theorem JH{h:Heap}{H:Hp}{b:Addr}{o:Obj}(e:(qJ h H).get? b=some o):h.get? b=some o/\H b=none:=by
 have e':h.get? b=some o:=PySem.W.of_hideAll (Np h H) e;refine⟨e',?_⟩;cases q:H b with
 |none=>rfl
 |some x=>
  have hm:b∈Np h H:=mF.mpr ⟨eJ.mpr (Heap.lt_size e'),by simp[q]⟩
  have z:(qJ h H).get? b=none:=PySem.W.hideAll_none (Np h H) hm;rw[z] at e;cases e
def u9(g h:Heap)(L:Addr):List (Addr×Obj):=(List.range h.objs.size).filterMap λa=>if a=L\/(g.get? a).isSome=true then none else(h.get? a).map λo=>(a,o)
theorem eX{g h:Heap}{L a:Addr}{o:Obj}(h1:a≠L)(h2:g.get? a=none)(h3:h.get? a=some o):(a,o)∈u9 g h L:=
 zq93.mpr ⟨a,eJ.mpr (Heap.lt_size h3),by simp[h1,h2,h3]⟩
theorem uq{g h:Heap}{L:Addr}{p:Addr×Obj}(hp:p∈u9 g h L):p.1≠L/\g.get? p.1=none/\h.get? p.1=some p.2:=by
 obtain⟨b,_,e⟩:=zq93.mp hp
 split at e
 ·cases e
 ·rename_i hn
  cases q:h.get? b with
  |none=>rw[q] at e;simp at e
  |some u=>
   rw[q] at e;simp only[Option.map_some,Option.some.injEq] at e;subst e;refine⟨λz=>hn (.inl z),?_,q⟩;show g.get? b=none;cases r:g.get? b with
   |none=>rfl
   |some v=>exact(hn (.inr (by simp[r]))).elim
theorem yO{g h:Heap}{L:Addr}:News g L h (u9 g h L):=λp hp=>let ⟨a,b,c⟩:=uq hp;⟨c,a,b⟩
structure Mod (K:PySem.W.Frag) (mg:Str->Option Value) (base:Heap):Prop where
 kin:K.In base
 glob:base.Ns mainGlobals mg
 blt:∃mb,base.Ns builtinsNs mb/\∀x:Str,x≠"__name__"->mb x=bootBuiltins x
 nolimit:base.NoLimit
structure Cx where
 prog:Program
 w:World
 K:PySem.W.Frag
 mg:Str->Option Value
 base:Heap
 A:Around
 N:List Str
 s₀:Shared
 H₀:Hp
 env:Env
 outer:List Env
 stack:List Env
 ex:List Addr
 fn:Str->Bool
 calm:Bool
 pn:List (Addr×Obj)
 xe:Value->Shared->Prop
def vD(l:List Env):List Addr:=l.filterMap (·.frame)
abbrev Cx.fs(X:Cx):List Addr:=vD X.outer
def j5(sc:Scope)(x:Str):Prop:=sc.names.lookup x=some .local\/sc.names.lookup x=some .cell\/sc.names.lookup x=some .free
def Loc(sc:Scope)(x:Str):Prop:=sc.names.lookup x=some .local\/sc.names.lookup x=some .cell
def Look(env:Env)(h:Heap)(m:Str->Option Value)(x:Str)(u:Value):Prop:=
 (env.kindOf x=some .local/\m x=some u)\/((env.kindOf x=some .cell\/env.kindOf x=some .free)/\∃c,env.cells.lookup x=some c/\h.IsCell c (some u))
structure Cx.Ok (X:Cx):Prop where
 mod:Mod X.K X.mg X.base
 kind:X.env.scope.kind= .function
 glob:X.env.globals=mainGlobals
 blt:X.env.builtins=builtinsNs
 above:X.s₀.heap.objs.size<=X.env.locals
 inj:∀x y c,X.env.cells.lookup x=some c->X.env.cells.lookup y=some c->x=y
 has:∀x,(X.env.kindOf x=some .cell\/X.env.kindOf x=some .free)->∃c,X.env.cells.lookup x=some c
 cab:∀x c,X.fn x=true->X.env.cells.lookup x=some c->X.s₀.heap.objs.size<=c
 hd:X.calm=true->X.A.handled=none
 frames:X.A.frames=some X.stack
 stk:X.stack=X.outer\/(X.stack=X.env::X.outer/\X.env.frame=some X.env.locals)
 exf:∀b∈X.ex,b≠X.env.locals/\∀x c,X.env.cells.lookup x=some c->c≠b
 bs:∀b o,X.base.get? b=some o->X.s₀.heap.get? b=some o/\X.H₀ b=none
 bsz:X.base.objs.size<=X.s₀.heap.objs.size
 noex:∀b o,X.base.get? b=some o->b∉X.ex
 exfs:∀b∈X.ex,b∉X.fs
 funs:X.s₀.heap.FunFrames X.base X.outer
 frf:∀b∈X.fs,X.H₀ b=none
structure Inv (X:Cx) (pins:List (Addr×Obj)) (σ:List (Option V)) (H:Hp) (s:Shared):Prop where
 ok:X.Ok
 os:s.os=X.s₀.os
 bare:AllBare s.gens
 base:Un X.fs X.ex X.H₀ H X.s₀.heap s.heap
 loc:∃m,s.heap.Ns X.env.locals m/\∀(i:Nat)(x:Str)(v:V),X.N[i]? =some x->σ[i]? =some (some v)->j5 X.env.scope x->∃u,RelV v u/\Look X.env s.heap m x u
 cell:∀x c,X.env.cells.lookup x=some c->∃v,s.heap.IsCell c v
 free:H X.env.locals=none
 freeC:∀x c,X.env.cells.lookup x=some c->H c=none
 pin:∀p∈X.pn++pins,s.heap.get? p.1=some p.2/\H p.1=none/\p.1≠X.env.locals/\p.1∉X.fs/\∀v,p.2.data≠ .cell v
 hok:iN X.prog X.w H s.heap
 len:σ.length=X.N.length
section
variable {X:Cx} {pins:List (Addr×Obj)} {σ:List (Option V)} {H H':Hp} {s:Shared} {h':Heap}
theorem Cx.Ok.Xj(ok:X.Ok){b:Addr}{o:Obj}(e:X.base.get? b=some o):b∉X.fs:=λhb=>by
 have:=(ok.funs.mem hb).1
 rw[e] at this;cases this
theorem Inv.bs(I:Inv X pins σ H s):∀b o,X.base.get? b=some o->s.heap.get? b=some o/\H b=none:=λb o e=>
 ⟨I.base.keep b o (I.ok.bs b o e).1 (I.ok.bs b o e).2 (I.ok.Xj e) (I.ok.noex b o e),I.base.free b o (I.ok.bs b o e).1 (I.ok.bs b o e).2 (I.ok.noex b o e)⟩
theorem Inv.bk(I:Inv X pins σ H s):∀b o,X.base.get? b=some o->s.heap.get? b=some o:=λb o e=>(I.bs b o e).1
theorem Inv.mod(I:Inv X pins σ H s):Mod X.K X.mg X.base:=I.ok.mod
theorem Inv.il(I:Inv X pins σ H s):X.K.In s.heap:=I.ok.mod.kin.keeps I.bk
theorem Inv.fr(I:Inv X pins σ H s):∃m,Fr X.base X.env.locals s.heap m:=
 let ⟨m,hn,_⟩:=I.loc
 ⟨m,hn,I.bk,mG I.ok.bsz I.ok.above⟩
theorem Inv.lt(I:Inv X pins σ H s):X.env.locals<s.heap.objs.size:=let ⟨_,hn,_⟩:=I.loc;hn.lt
theorem Inv.sz(I:Inv X pins σ H s):X.s₀.heap.objs.size<=s.heap.objs.size:=mG I.ok.above (Nat.le_of_lt I.lt)
theorem Inv.OM(I:Inv X pins σ H s){a:Addr}(h:s.heap.objs.size<=a):a∉X.fs:=λhb=>by
 obtain⟨_,o,ho,_⟩:=I.ok.funs.mem hb;exact absurd (gK (Heap.lt_size ho) (mG I.sz h)) (gI _)
theorem Inv.CH(I:Inv X pins σ H s):∀x c,X.env.cells.lookup x=some c->c≠X.env.locals:=λx c e z=>by
 obtain⟨v,o,ho,hd⟩:=I.cell x c e;obtain⟨m,⟨o',es,ep,ia,jf,_⟩,_⟩:=I.loc;rw[z,ia] at ho;cases ho;rw[jf] at hd;cases hd
theorem Inv.funs(I:Inv X pins σ H s):s.heap.FunFrames X.base X.outer:=by
 have all:∀(l:List Env),(∀b∈vD l,b∈X.fs)->X.s₀.heap.FunFrames X.base l->s.heap.FunFrames X.base l:=by
  intro l
  induction l with
  |nil=>intro _ _;trivial
  |cons env r ih=>
   intro hs hl;rfl';obtain⟨hk,⟨L,o,hf,hn,ho,hd⟩,hr⟩:=hl;have hL:L∈X.fs:=hs L (by unfold vD;rw[List.filterMap_cons,hf];exact cw)
   obtain⟨sl,e⟩:=I.base.slot L o ho (I.ok.frf L hL) hL λz=>I.ok.exfs L z hL;ac_rfl;exact⟨hk,⟨L,_,hf,hn,e,hd⟩,ih (λb hb=>hs b (by unfold vD;rw[List.filterMap_cons,hf];exact b8 _ hb)) hr⟩
 exact all X.outer (λ_ hb=>hb) I.ok.funs
theorem Inv.stack(I:Inv X pins σ H s):s.heap.FunFrames X.base X.stack:=by
 rcases I.ok.stk with e| ⟨e,hf⟩
 ·rw[e];exact I.funs
 ·rw[e]
  obtain⟨m,hn,_⟩:=I.loc;refine .cons (by rw[I.ok.kind];decide) hf hn ?_ I.funs
  exact Heap.get?_none_of_le (mG I.ok.bsz I.ok.above)
theorem Inv.Au(I:Inv X pins σ H s):∀b∈vD X.stack,b∈X.env.locals::X.fs:=λb hb=>by
 rcases I.ok.stk with e| ⟨e,hf⟩
 ·rw[e] at hb;exact b8 _ hb
 ·rw[e] at hb
  unfold vD at hb;rw[List.filterMap_cons,hf] at hb;exact hb
theorem Inv.Cb(I:Inv X pins σ H s):∀b∈vD X.stack,H b=none:=λb hb=>by
 rcases cD.mp (I.Au b hb) with e|hb
 ·rw[e];exact I.free
 ·obtain⟨_,o,ho,_⟩:=I.ok.funs.mem hb
  exact I.base.free b o ho (I.ok.frf b hb) λz=>I.ok.exfs b z hb
theorem Inv.step{g':Array GenState}{t':Nat}{d':Drawn}{ch:List Addr}(I:Inv X pins σ H s)
  (xI:∀b∈ch,(b∈X.ex\/X.s₀.heap.objs.size<=b)/\b≠X.env.locals/\(∀x c,X.env.cells.lookup x=some c->c≠b)/\∀p∈X.pn++pins,p.1≠b)
  (keep:∀b o,b≠X.env.locals->b∉X.fs->b∉ch->s.heap.get? b=some o->H b=none->h'.get? b=some o)
  (slot:∀b o,b≠X.env.locals->b∈X.fs->b∉ch->s.heap.get? b=some o->H b=none->∃sl,h'.get? b=some {o with slots:=sl}) (free:∀b o,b∉ch->s.heap.get? b=some o->H b=none->H' b=none)
  (there:∀b o,b∉ch->s.heap.get? b=some o->∃o',h'.get? b=some o')
  (tups:∀b xs,H b=some (.tup xs)->H' b=some (.tup xs)) (frzs:∀b o u,H b=some (.pL o u)->H' b=some (.pL o u)) (tbls:∀b ps,H b=some (.Ce ps)->∃more,H' b=some (.Ce (ps++more)))
  (ns:∀m,s.heap.Ns X.env.locals m->h'.Ns X.env.locals m) (hok:iN X.prog X.w H' h') (hg:AllBare g'):
  Inv X pins σ H' {s with heap:=h',gens:=g',drawn:=d',toks:=t'}:=by
 have Xg:∀b o,X.s₀.heap.get? b=some o->b≠X.env.locals:=λb o e=>cH (gK (Heap.lt_size e) I.ok.above)
 have GI:∀b o,X.s₀.heap.get? b=some o->b∉X.ex->b∉ch:=λb o e hx hb=>by
  rcases(xI b hb).1 with z|z
  ·exact hx z
  ·exact absurd (gK (Heap.lt_size e) z) (gI _)
 have cellK:∀x c,X.env.cells.lookup x=some c->∀v,s.heap.IsCell c v->h'.IsCell c v:=λx c e v ⟨o,ho,hd⟩=>by
  have Jz:c∉ch:=λz=>(xI c z).2.2.1 x c e rfl
  by_cases hc:c∈X.fs
  ·obtain⟨sl,q⟩:=slot c o (I.CH x c e) hc Jz ho (I.freeC x c e)
   exact⟨_,q,hd⟩
  ·exact⟨o,keep c o (I.CH x c e) hc Jz ho (I.freeC x c e),hd⟩
 refine⟨I.ok,I.os,hg,⟨λb o e n hb hx=>?_,λb o e n hb hx=>?_,λb o e n hx=>?_,λb o e hx=>?_,λb xs e=>tups b xs (I.base.tups b xs e),λb o xs e=>frzs b o xs (I.base.frzs b o xs e),λb ps e=>?_⟩,?_,λx c e=>?_,?_,λx c e=>?_,λp hp=>?_,hok,I.len⟩
 ·exact keep b o (Xg b o e) hb (GI b o e hx) (I.base.keep b o e n hb hx) (I.base.free b o e n hx)
 ·obtain⟨sl,e1⟩:=I.base.slot b o e n hb hx
  obtain⟨sl',e2⟩:=slot b _ (Xg b o e) hb (GI b o e hx) e1 (I.base.free b o e n hx);exact⟨sl',e2⟩
 ·obtain⟨o',e1⟩:=I.base.there b o e hx
  exact free b o' (GI b o e hx) e1 (I.base.free b o e n hx)
 ·obtain⟨o',e1⟩:=I.base.there b o e hx
  exact there b o' (GI b o e hx) e1
 ·obtain⟨m1,e1⟩:=I.base.tbls b ps e
  obtain⟨m2,e2⟩:=tbls b _ e1;exact⟨m1++m2,by rw[e2,Array.append_assoc]⟩
 ·obtain⟨m,hn,hl⟩:=I.loc
  refine⟨m,ns m hn,λi x v e1 e2 e3=>?_⟩;obtain⟨u,r,l⟩:=hl i x v e1 e2 e3;refine⟨u,r,?_⟩
  rcases l with l| ⟨k,c,e,z⟩
  ·exact .inl l
  ·exact .inr ⟨k,c,e,cellK x c e _ z⟩
 ·obtain⟨v,z⟩:=I.cell x c e
  exact⟨v,cellK x c e v z⟩
 ·obtain⟨m,⟨o,_,_,ho,_⟩,_⟩:=I.loc
  exact free _ o (λz=>(xI _ z).2.1 rfl) ho I.free
 ·obtain⟨v,o,ho,hd⟩:=I.cell x c e
  exact free c o (λz=>(xI c z).2.2.1 x c e rfl) ho (I.freeC x c e)
 ·obtain⟨e,n,ne,nf,d⟩:=I.pin p hp
  have Jz:p.1∉ch:=λz=>(xI p.1 z).2.2.2 p hp rfl;exact⟨keep p.1 p.2 ne nf Jz e n,free p.1 p.2 Jz e n,ne,nf,d⟩
theorem Inv.un{t':Nat}(I:Inv X pins σ H s)(u:Un X.fs [] H H' s.heap h')(hok:iN X.prog X.w H' h'):Inv X pins σ H' {s with heap:=h',toks:=t'}:=by
 rfl';obtain⟨m,⟨o,es,ep,ho,r⟩,_⟩:=id I.loc;obtain⟨sl,hL⟩:=u.any ho I.free (by simp)
 ac_rfl
 exact I.step (g':=s.gens) (d':=s.drawn) (ch:= []) (λ_ z=>nomatch z) (λb o _ hb _ e n=>u.keep b o e n hb (by simp)) (λb o _ hb _ e n=>u.slot b o e n hb (by simp)) (λb o _ e n=>u.free b o e n (by simp)) (λb o _ e=>u.there b o e (by simp)) u.tups u.frzs u.tbls (λm' hm=>by
  rfl';obtain⟨o',mX,CT,ia,r'⟩:=hm;ac_rfl;rw[ho] at ia;cases ia;exact⟨_,mX,CT,hL,r'⟩) hok I.bare
theorem Inv.call{g':Array GenState}{t':Nat}{d':Drawn}{ch:List Addr}(I:Inv X pins σ H s)(u:Un (vD X.stack) ch H H' s.heap h')(hok:iN X.prog X.w H' h')(hg:AllBare g')
  (xI:∀b∈ch,(b∈X.ex\/X.s₀.heap.objs.size<=b)/\b≠X.env.locals/\(∀x c,X.env.cells.lookup x=some c->c≠b)/\∀p∈X.pn++pins,p.1≠b):
  Inv X pins σ H' {s with heap:=h',gens:=g',drawn:=d',toks:=t'}:=by
 rfl';obtain⟨m,⟨o,es,ep,ho,r⟩,_⟩:=id I.loc;obtain⟨sl,hL⟩:=u.any ho I.free λz=>(xI _ z).2.1 rfl;ac_rfl
 exact I.step (ch:=ch) xI (λb o hL hb hc e n=>u.keep b o e n (λz=>(cD.mp (I.Au b z)).elim hL hb) hc) (λb o _ _ hc e n=>u.any e n hc) (λb o hc e n=>u.free b o e n hc) (λb o hc e=>u.there b o e hc) u.tups u.frzs u.tbls (λm' hm=>by
  rfl';obtain⟨o',mX,CT,ia,r'⟩:=hm;ac_rfl;rw[ho] at ia;cases ia;exact⟨_,mX,CT,hL,r'⟩) hok hg
theorem Inv.turned{t':Nat}{it:Addr}(I:Inv X pins σ H s)(k:∀b o,b≠it->s.heap.get? b=some o->h'.get? b=some o)(hn:H it=none)(hL:it≠X.env.locals)
  (h1:it∈X.ex\/X.s₀.heap.objs.size<=it) (h2:∀x c,X.env.cells.lookup x=some c->c≠it) (h3:∀p∈X.pn++pins,p.1≠it):Inv X pins σ H {s with heap:=h',toks:=t'}:=by
 have Xi:∀b u,H b=some u->b≠it:=λb u e z=>by rw[z,hn] at e;cases e
 refine I.step (g':=s.gens) (d':=s.drawn) (ch:= [it]) (λb hb=>?_) (λb o _ _ hc e _=>k b o (λz=>hc (by simp[z])) e) (λb o _ _ hc e _=>⟨o.slots,k b o (λz=>hc (by simp[z])) e⟩) (λ_ _ _ _ n=>n)
  (λb o hc e=>⟨o,k b o (λz=>hc (by simp[z])) e⟩) (λ_ _ e=>e) (λ_ _ _ e=>e) (λb ps e=>⟨#[],by rw[e];simp⟩) (λm hm=>?_) (λb u e=>?_) I.bare
 ·have e:b=it:=by simpa using hb
  subst e;exact⟨h1,hL,h2,h3⟩
 ·obtain⟨o,es,ep,ho,r⟩:=hm
  exact⟨o,es,ep,k _ o (Ne.symm hL) ho,r⟩
 ·refine(I.hok b u e).rU (λc v hc q=>k c v ?_ q) (λ_ q=>q) λ_ _ q=>q
  rcases hc with z|z
  ·rw[z];exact Xi b u e
  ·exact Xi c _ z
theorem Inv.tok(I:Inv X pins σ H s)(t:Nat):Inv X pins σ H {s with toks:=t}:=I.un (h':=s.heap) (t':=t) Un.refl I.hok
theorem Inv.kept{t':Nat}(I:Inv X pins σ H s)(k:∀b u,s.heap.get? b=some u->h'.get? b=some u):Inv X pins σ H {s with heap:=h',toks:=t'}:=I.un (Un.kept k) (I.hok.kept k)
theorem Inv.laid{a:Addr}{o:HO}{t':Nat}(I:Inv X pins σ H s)(k:∀b u,s.heap.get? b=some u->h'.get? b=some u)(hp:s.heap.objs.size<=a)(new:cO X.prog X.w (upd H a o) h' a o):
  Inv X pins σ (upd H a o) {s with heap:=h',toks:=t'}:=I.un (Un.laid k hp (I.hok.fresh hp)) (I.hok.laid k hp new)
theorem Inv.write{x e:Addr}{o:HO}{t':Nat}(I:Inv X pins σ H s)(mu:Ld (H x))(he:e=x\/H e=some (.own x))(k:∀b u,b≠e->s.heap.get? b=some u->h'.get? b=some u)(Gh:∃u,h'.get? e=some u)
  (new:cO X.prog X.w (upd H x o) h' x o):Inv X pins σ (upd H x o) {s with heap:=h',toks:=t'}:=I.un (Un.write mu he k Gh) (I.hok.write mu he k Gh new)
theorem Inv.rA{Am:List (Addr×Obj)}(I:Inv X pins σ H s)(h:∀p∈Am,s.heap.get? p.1=some p.2/\H p.1=none/\p.1≠X.env.locals/\p.1∉X.fs/\∀v,p.2.data≠ .cell v):Inv X Am σ H s:=
 ⟨I.ok,I.os,I.bare,I.base,I.loc,I.cell,I.free,I.freeC,λp hp=>(fR.mp hp).elim (λz=>I.pin p (mE _ z)) (h p),I.hok,I.len⟩
theorem yP{N:List Str}(hN:N.Nodup){i j:Nat}{x:Str}(a:N[i]? =some x)(b:N[j]? =some x):i=j:=by
 obtain⟨h1,e1⟩:=cT.mp a;obtain⟨h2,e2⟩:=cT.mp b;exact(List.getElem_inj hN).mp (e1.trans e2.symm)
theorem store_ok2{M:Model}{A:Around}{E:Value->Shared->Prop}{i:Nat}{x:Str}{v:V}{u:Value}{Q:Unit->Shared->Prop}(I:Inv X pins σ H s)(hN:X.N.Nodup)(hi:X.N[i]? =some x)(hx:Loc X.env.scope x)(r:RelV v u)
  (h:∀s',Inv X pins (σ.set i (some v)) H s'->(∃a,Heap.SameBut a s.heap s'.heap/\(a=X.env.locals\/X.env.cells.lookup x=some a))->Q () s') (hf:X.fn x=true\/X.env.scope.names.lookup x=some .local:=by first|exact .inl rfl|exact .inr rfl|assumption):wpAny M A (storeName X.env x u) Q E s:=by
 obtain⟨m,hn,hl⟩:=id I.loc;have VH:(X.env.scope.kind== .class|| (X.env.scope.kind== .module&&X.env.locals !=X.env.globals))=false:=by rw[I.ok.kind];rfl
 have OE:i<σ.length:=by rw[I.len];exact(cT.mp hi).1
 have CH:=I.CH
 have tracked:∀{a:Addr}{h':Heap},(∃o,s.heap.get? a=some o/\H a=none)->Heap.SameBut a s.heap h'->iN X.prog X.w H h':=λ {a h'} ha hs b ob e=>by
  obtain⟨_,_,zU⟩:=ha;refine(I.hok b ob e).rU (λc w' hc q=>(hs.2 c ?_).trans q) (λ_ q=>q) λ_ _ q=>q;rintro rfl
  rcases hc with rfl|hc
  ·rw[zU] at e;cases e
  ·rw[zU] at hc;cases hc
 rcases hx with hk|hk
 ·refine wpAny_storeName_local hk hn (λh' hn' hs=>?_) VH
  obtain⟨oL,_,_,hoL,_⟩:=id hn;refine h _ ⟨I.ok,I.os,I.bare,⟨λb o e n hb hx=>?_,λb o e n hb hx=>?_,I.base.free,λb o e hx=>?_,I.base.tups,I.base.frzs,I.base.tbls⟩,⟨_,hn',λj y v' e1 e2 e3=>?_⟩,λy c e=>?_,I.free,I.freeC,λp hp=>?_,tracked ⟨oL,hoL,I.free⟩ hs,by simpa using I.len⟩ ⟨_,hs, .inl rfl⟩
  ·exact(hs.2 b (cH (gK (Heap.lt_size e) I.ok.above))).trans (I.base.keep b o e n hb hx)
  ·obtain⟨sl,e1⟩:=I.base.slot b o e n hb hx
   exact⟨sl,(hs.2 b (cH (gK (Heap.lt_size e) I.ok.above))).trans e1⟩
  ·obtain⟨o',e1⟩:=I.base.there b o e hx
   exact⟨o',(hs.2 b (cH (gK (Heap.lt_size e) I.ok.above))).trans e1⟩
  ·by_cases hj:j=i
   ·subst hj
    rw[hi] at e1;cases e1;rw[gF OE] at e2;cases e2;exact⟨u,r, .inl ⟨hk,by simp⟩⟩
   ·rw[gG (Ne.symm hj)] at e2
    obtain⟨u',r',q⟩:=hl j y v' e1 e2 e3;refine⟨u',r',?_⟩
    rcases q with ⟨k,e⟩ | ⟨k,c,e,z⟩
    ·refine .inl ⟨k,?_⟩
     have:y≠x:=λe=>hj (yP hN e1 (e▸hi))
     simp[this,e]
    ·exact .inr ⟨k,c,e,z.sameBut hs (CH y c e)⟩
  ·obtain⟨w',z⟩:=I.cell y c e
   exact⟨w',z.sameBut hs (CH y c e)⟩
  ·obtain⟨e,n,ne,nf,d⟩:=I.pin p hp
   exact⟨(hs.2 p.1 ne).trans e,n,ne,nf,d⟩
 ·have QF:X.fn x=true:=by
   rcases hf with z|z
   ·exact z
   ·rw[z] at hk;cases hk
  obtain⟨c,hc⟩:=I.ok.has x (.inl hk);obtain⟨w',z⟩:=I.cell x c hc;refine wpAny_storeName_cell I.ok.kind hk hc z (λh' oP hs=>?_);obtain⟨oc,V1,V2⟩:=id z;refine h {s with heap:=h'} ⟨I.ok,I.os,I.bare,⟨λb o e n hb hx=>?_,λb o e n hb hx=>?_,I.base.free,λb o e hx=>?_,I.base.tups,I.base.frzs,I.base.tbls⟩,⟨m,hn.sameBut hs (Ne.symm (CH x c hc)),λj y v' e1 e2 e3=>?_⟩,λy c' e=>?_,I.free,I.freeC,λp hp=>?_,tracked ⟨oc,V1,I.freeC x c hc⟩ hs,by simpa using I.len⟩ ⟨c,hs, .inr hc⟩
  ·exact(hs.2 b (cH (gK (Heap.lt_size e) (I.ok.cab x c QF hc)))).trans (I.base.keep b o e n hb hx)
  ·obtain⟨sl,e1⟩:=I.base.slot b o e n hb hx
   exact⟨sl,(hs.2 b (cH (gK (Heap.lt_size e) (I.ok.cab x c QF hc)))).trans e1⟩
  ·obtain⟨o',e1⟩:=I.base.there b o e hx
   exact⟨o',(hs.2 b (cH (gK (Heap.lt_size e) (I.ok.cab x c QF hc)))).trans e1⟩
  ·by_cases hj:j=i
   ·subst hj
    rw[hi] at e1;cases e1;rw[gF OE] at e2;cases e2;exact⟨u,r, .inr ⟨.inl hk,c,hc,oP⟩⟩
   ·rw[gG (Ne.symm hj)] at e2
    obtain⟨u',r',q⟩:=hl j y v' e1 e2 e3;refine⟨u',r',?_⟩
    rcases q with q| ⟨k,c',e,z'⟩
    ·exact .inl q
    ·refine .inr ⟨k,c',e,z'.sameBut hs ?_⟩
     rintro rfl;exact hj (yP hN e1 (I.ok.inj _ _ _ e hc▸hi))
  ·by_cases VF:c'=c
   ·subst VF;exact⟨_,oP⟩
   ·obtain⟨w2,z2⟩:=I.cell y c' e
    exact⟨w2,z2.sameBut hs VF⟩
  ·obtain⟨e,n,ne,nf,d⟩:=I.pin p hp
   refine⟨(hs.2 p.1 ?_).trans e,n,ne,nf,d⟩;intro q;rw[q,V1] at e;have q':oc=p.2:=Option.some.inj e;exact d w' (by rw[<-q'];exact V2)
theorem kR{M:Model}{A:Around}{E:Value->Shared->Prop}{i:Nat}{x:Str}{v:V}{u:Value}{Q:Unit->Shared->Prop}(I:Inv X pins σ H s)(hN:X.N.Nodup)(hi:X.N[i]? =some x)(hx:Loc X.env.scope x)(r:RelV v u)
  (h:∀s',Inv X pins (σ.set i (some v)) H s'->Q () s') (hf:X.fn x=true\/X.env.scope.names.lookup x=some .local:=by first|exact .inl rfl|exact .inr rfl|assumption):wpAny M A (storeName X.env x u) Q E s:=
 store_ok2 I hN hi hx r (λs' I' _=>h s' I') hf
theorem Inv.O9{s':Shared}{ch:List Addr}(I:Inv X pins σ H s)(ho:s'.os=s.os)(u:Un (vD X.stack) ch H H' s.heap s'.heap)(hok:iN X.prog X.w H' s'.heap)(hg:AllBare s'.gens)
  (xI:∀b∈ch,(b∈X.ex\/X.s₀.heap.objs.size<=b)/\b≠X.env.locals/\(∀x c,X.env.cells.lookup x=some c->c≠b)/\∀p∈X.pn++pins,p.1≠b):Inv X pins σ H' s':=by
 obtain⟨h',g',d',t',o'⟩:=s';have e:o'=s.os:=ho;subst e;exact I.call (g':=g') (t':=t') (d':=d') u hok hg xI
end
abbrev XK:=Value->Option Addr->Hp->Prop
abbrev St:=List (Option V)
abbrev VK:=V->Hp->Prop
abbrev TE:=St->Hp->VK->Prop
abbrev TT:=St->Hp->(Bool->Hp->Prop)->Prop
abbrev TA:=St->Hp->(List V->Hp->Prop)->Prop
structure Ends where
 nx:St->Hp->Prop
 rt:VK
 bk:St->Hp->Prop:=λ_ _=>False
 ct:St->Hp->Prop:=λ_ _=>False
abbrev TS:=Ends->St->Hp->Prop
def EP(X:Cx)(pins:List (Addr×Obj))(σ:St)(Q:VK)(u:Value)(s':Shared):Prop:=∃v H',Inv X pins σ H' s'/\RelV v u/\Q v H'
def TP(X:Cx)(pins:List (Addr×Obj))(σ:St)(Q:Bool->Hp->Prop)(b:Bool)(s':Shared):Prop:=∃H',Inv X pins σ H' s'/\Q b H'
def AP(X:Cx)(pins:List (Addr×Obj))(σ:St)(Q:List V->Hp->Prop)(us:List Value)(s':Shared):Prop:=∃vs H',Inv X pins σ H' s'/\Vals vs us/\Q vs H'
def SP(X:Cx)(pins:List (Addr×Obj))(D:Ends)(f:Flow)(s':Shared):Prop:=
 match f with
 | .next=>∃aC H',Inv X pins aC H' s'/\D.nx aC H'
 | .brk=>∃aC H',Inv X pins aC H' s'/\D.bk aC H'
 | .cont=>∃aC H',Inv X pins aC H' s'/\D.ct aC H'
 | .ret u=>∃v aC H',Inv X pins aC H' s'/\RelV v u/\D.rt v H'
def PE(X:Cx)(e:Expr)(t:TE):Prop:=
 ∀(pins:List (Addr×Obj))(s:Shared)(σ:St)(H:Hp)(Q:VK),Inv X pins σ H s->t σ H Q->wpAny (model X.prog X.w) X.A (eval e X.env) (EP X pins σ Q) X.xe s
def PT(X:Cx)(e:Expr)(t:TT):Prop:=
 ∀(pins:List (Addr×Obj))(s:Shared)(σ:St)(H:Hp)(Q:Bool->Hp->Prop),Inv X pins σ H s->t σ H Q->wpAny (model X.prog X.w) X.A (isTrue e X.env (eval e X.env)) (TP X pins σ Q) X.xe s
def PW(X:Cx)(e:Expr)(t:TT):Prop:=
 ∀(whole:Sem Value)(pins:List (Addr×Obj))(s:Shared)(σ:St)(H:Hp)(Q:Bool->Hp->Prop),Inv X pins σ H s->t σ H Q->wpAny (model X.prog X.w) X.A (isTrue e X.env whole) (TP X pins σ Q) X.xe s
theorem PW.pt{X:Cx}{e:Expr}{t:TT}(h:PW X e t):PT X e t:=h _
def PA(X:Cx)(es:List Expr)(t:TA):Prop:=
 ∀(pos:Pos)(pins:List (Addr×Obj))(s:Shared)(σ:St)(H:Hp)(Q:List V->Hp->Prop),Inv X pins σ H s->t σ H Q->wpAny (model X.prog X.w) X.A (spliced (backTo pos (starEach es X.env))) (AP X pins σ Q) X.xe s
def PS(X:Cx)(st:Stmt)(t:TS):Prop:=
 ∀(pins:List (Addr×Obj))(s:Shared)(σ:St)(H:Hp)(D:Ends),Inv X pins σ H s->t D σ H->wpAny (model X.prog X.w) X.A (exec st X.env) (SP X pins D) X.xe s
def lj(X:Cx)(st:List Stmt)(t:TS):Prop:=
 ∀(pins:List (Addr×Obj))(s:Shared)(σ:St)(H:Hp)(D:Ends),Inv X pins σ H s->t D σ H->wpAny (model X.prog X.w) X.A (execs st X.env) (SP X pins D) X.xe s
theorem thn{α:Type}{t:Sem α}{Q Q':α->Shared->Prop}{M:Model}{A:Around}{E:Value->Shared->Prop}{s:Shared}(h:wpAny M A t Q E s)(hQ:∀a s,Q a s->Q' a s):wpAny M A t Q' E s:=wpAny_mono h hQ λ_ _ x=>x
section
variable {X:Cx}
def OX(i:Nat):TE:=λσ H Q=>∃v,σ[i]? =some (some v)/\Q v H
def tC(v:V):TE:=λ_ H Q=>Q v H
theorem Al{i:Nat}{x:Str}{pos:Pos}(hN:X.N[i]? =some x)(hv:j5 X.env.scope x)(hd:(x==("__debug__":Str))=false:=by decide)(dh:(x==("__classdict__":Str))=false:=by decide):PE X (.Name x pos) (OX i):=by
 intro pins s σ H Q I h;rfl';obtain⟨v,e,h⟩:=h;obtain⟨m,hn,hl⟩:=I.loc;obtain⟨u,r,l⟩:=hl i x v hN e hv;have fin:EP X pins σ Q u s:=⟨v,H,I,r,h⟩;ac_rfl
 rcases l with ⟨hk,hm⟩ | ⟨hk,c,hc,IL⟩
 ·exact wpAny_Name (wpAny_loadName_local I.ok.kind hk hn hm fin) hd
 ·rcases hk with hk|hk
  ·exact wpAny_Name (wpAny_loadName_cell I.ok.kind hk hc IL fin) hd
  ·exact wpAny_Name (wpAny_loadName_free I.ok.kind hk hc IL fin dh) hd
theorem MH{i j pos}:PE X (.Constant (.int i) j pos) (tC (.int i)):=λ_ _ _ H _ I h=>wpAny_Constant_int ⟨.int i,H,I.tok _,⟨_,rfl⟩,h⟩
theorem Ru{b j pos}:PE X (.Constant (.bool b) j pos) (tC (.bl b)):=λ_ _ _ H _ I h=>Constant_bool ⟨.bl b,H,I,rfl,h⟩
theorem MJ{j pos}:PE X (.Constant .none j pos) (tC .aZ):=λ_ _ _ H _ I h=>Constant_none ⟨.aZ,H,I,rfl,h⟩
theorem MM{x j pos}:PE X (.Constant (.str x) j pos) (tC (.str x)):=λ_ _ _ H _ I h=>Calls.Constant_str ⟨.str x,H,I.tok _,⟨_,rfl⟩,h⟩
def Gl(X:Cx)(x:Str):Prop:=X.env.kindOf x=some .globalImplicit
theorem vN{E:Value->Shared->Prop}{pins:List (Addr×Obj)}{s:Shared}{σ:St}{H:Hp}{x:Str}{u:Value}{pos:Pos}{Q:Value->Shared->Prop}(I:Inv X pins σ H s)(hg:Gl X x)(hm:X.mg x=some u)(h:Q u s)
  (hd:(x==("__debug__":Str))=false:=by decide):wpAny (model X.prog X.w) X.A (eval (.Name x pos) X.env) Q E s:=
 Calls.Name_function_global I.ok.kind hg (Calls.loadGlobal_global (by rw[I.ok.glob];exact I.mod.glob.keeps I.bk) hm h) hd
theorem hU{E:Value->Shared->Prop}{pins:List (Addr×Obj)}{s:Shared}{σ:St}{H:Hp}{x:Str}{u:Value}{pos:Pos}{Q:Value->Shared->Prop}(I:Inv X pins σ H s)(hg:Gl X x)(hm:X.mg x=none)(hv:bootBuiltins x=some u)(h:Q u s)
  (hn:x≠"__name__":=by decide) (hd:(x==("__debug__":Str))=false:=by decide):wpAny (model X.prog X.w) X.A (eval (.Name x pos) X.env) Q E s:=by
 obtain⟨mb,h1,h2⟩:=I.mod.blt;exact Calls.Name_function_global I.ok.kind hg (Calls.loadGlobal_builtin (by rw[I.ok.glob];exact I.mod.glob.keeps I.bk) hm (by rw[I.ok.blt];exact h1.keeps I.bk) ((h2 x hn).trans hv) h) hd
theorem JW{x:Str}{v:V}{u:Value}{pos:Pos}(hg:Gl X x)(hm:X.mg x=some u)(r:RelV v u)(hd:(x==("__debug__":Str))=false:=by decide):PE X (.Name x pos) (tC v):=
 λ_ _ _ H _ I h=>vN I hg hm ⟨v,H,I,r,h⟩ hd
theorem JU{x:Str}{v:V}{u:Value}{pos:Pos}(hg:Gl X x)(hm:X.mg x=none)(hv:bootBuiltins x=some u)(r:RelV v u)(hn:x≠"__name__":=by decide)(hd:(x==("__debug__":Str))=false:=by decide):PE X (.Name x pos) (tC v):=
 λ_ _ _ H _ I h=>hU I hg hm hv ⟨v,H,I,r,h⟩ hn hd
variable {a b:Expr} {ta tb:TE} {pos:Pos}
variable {tA Av:TT} {rest:List Expr}
def Z4(t u:TT):TT:=λσ H Q=>t σ H λc H1=>if c=true then u σ H1 Q else Q false H1
def tOr(t u:TT):TT:=λσ H Q=>t σ H λc H1=>if c=true then Q true H1 else u σ H1 Q
def aac(t:TT):TT:=λσ H Q=>t σ H λc H1=>Q (!c) H1
theorem Kf(ha:PT X a tA):PW X (.BoolOp .And [a] pos) tA:=by
 intro wh pins s σ H Q I h;refine isTrue_and (thn (ha pins s σ H Q I h) λc s1 e=>?_);cases c with
 |true=>exact isTrue_and_nil e
 |false=>exact e
theorem MV(ha:PT X a tA):PW X (.BoolOp .Or [a] pos) tA:=by
 intro wh pins s σ H Q I h;refine isTrue_or (thn (ha pins s σ H Q I h) λc s1 e=>?_);cases c with
 |false=>exact isTrue_or_nil e
 |true=>exact e
theorem MU(ha:PT X a tA)(hb:PW X (.BoolOp .And (b::rest) pos) Av):PW X (.BoolOp .And (a::b::rest) pos) (Z4 tA Av):=by
 intro wh pins s σ H Q I h;refine isTrue_and (thn (ha pins s σ H _ I h) λc s1 ⟨H1,I1,q1⟩=>?_);cases c with
 |true=>exact hb wh pins s1 σ H1 Q I1 q1
 |false=>exact⟨H1,I1,q1⟩
theorem Rx(ha:PT X a tA)(hb:PW X (.BoolOp .Or (b::rest) pos) Av):PW X (.BoolOp .Or (a::b::rest) pos) (tOr tA Av):=by
 intro wh pins s σ H Q I h;refine isTrue_or (thn (ha pins s σ H _ I h) λc s1 ⟨H1,I1,q1⟩=>?_);cases c with
 |true=>exact⟨H1,I1,q1⟩
 |false=>exact hb wh pins s1 σ H1 Q I1 q1
theorem MT(ha:PT X a tA):PT X (.UnaryOp .Not a pos) (aac tA):=by
 intro pins s σ H Q I h;exact isTrue_not (ha pins s σ H (λc H1=>Q (!c) H1) I h)
def RO(ta tb:TE):TE:=λσ H Q=>ta σ H λx H1=>∃c,x= .bl c/\if c=true then tb σ H1 Q else Q (.bl false) H1
def RV(ta:TE):TE:=λσ H Q=>ta σ H λx H1=>∃c,x= .bl c/\Q (.bl (!c)) H1
theorem ML{op}{t:TE}(h:PE X a t):PE X (.BoolOp op [a] pos) t:=λpins s σ H Q I hw=>BoolOp_one (h pins s σ H Q I hw)
theorem MD(ha:PE X a ta)(hb:PE X (.BoolOp .And (b::rest) pos) tb):PE X (.BoolOp .And (a::b::rest) pos) (RO ta tb):=by
 intro pins s σ H Q I h;refine BoolOp_and (thn (ha pins s σ H _ I h) λv s1 bz=>?_);rfl';obtain⟨x,H1,I1,r1,q1⟩:=bz;obtain⟨c,rfl,q1⟩:=q1;ac_rfl;subst r1;refine wpAny_truthy_bool ?_;cases c with
 |true=>exact hb pins s1 σ H1 Q I1 q1
 |false=>exact⟨.bl false,H1,I1,rfl,q1⟩
theorem MK(ha:PE X a ta):PE X (.UnaryOp .Not a pos) (RV ta):=by
 intro pins s σ H Q I h;refine UnaryOp_ (thn (ha pins s σ H _ I h) λv s1 bz=>?_);rfl';obtain⟨x,H1,I1,r1,q1⟩:=bz;obtain⟨c,rfl,q1⟩:=q1;ac_rfl;subst r1;exact not_of (wpAny_truthy_bool ⟨.bl (!c),H1,I1,rfl,q1⟩)
def tIf(t:TT)(ta tb:TE):TE:=λσ H Q=>t σ H λc H1=>if c=true then ta σ H1 Q else tb σ H1 Q
theorem GQ{c:Expr}(hc:PT X c tA)(ha:PE X a ta)(hb:PE X b tb):PE X (.IfExp c a b pos) (tIf tA ta tb):=by
 intro pins s σ H Q I h;refine wpAny_IfExp (thn (hc pins s σ H _ I h) λd s1 ⟨H1,I1,q1⟩=>?_);cases d with
 |true=>exact ha pins s1 σ H1 Q I1 q1
 |false=>exact hb pins s1 σ H1 Q I1 q1
end
def bX(K:PySem.W.Frag)(H:Hp)(a:Addr)(xs:List V):Prop:=
 Rd H a (.lst xs)\/
  ∃(o:Obj)(its:Array Value)(n:Nat),K.lookup a=some o/\o.cls= .type "list"/\o.dict=none/\o.data= .seq its n/\its.size<=sizeLine/\Vals xs its.toList
def eB(K:PySem.W.Frag)(H:Hp)(a:Addr)(xs:List V):Prop:=
 Rd H a (.tup xs)\/
  ∃(o:Obj)(its:Array Value)(n:Nat),K.lookup a=some o/\o.cls= .type "tuple"/\o.data= .seq its n/\its.size<=sizeLine/\Vals xs its.toList
def Sq:Value->Option V
 | .none=>some .aZ
 | .bool b=>some (.bl b)
 | .int i _=>some (.int i)
 | .str x _=>some (.str x)
 | .bytes b _=>some (.FI b)
 | .float b _=>some (.CW b)
 | .ref a=>some (.ref a)
 | .type n=>some (.ty n)
 |_=>none
theorem RelV.abs{x:V}{u:Value}(r:RelV x u):Sq u=some x:=by
 cases x with
 |aZ=>cases r;rfl
 |bl _=>cases r;rfl
 |int _=>obtain⟨t,rfl⟩:=r;rfl
 |str _=>obtain⟨t,rfl⟩:=r;rfl
 |FI _=>obtain⟨t,rfl⟩:=r;rfl
 |CW _=>obtain⟨t,rfl⟩:=r;rfl
 |ref _=>cases r;rfl
 |ty _=>cases r;rfl
theorem RelV.inj{x y:V}{u:Value}(r:RelV x u)(q:RelV y u):x=y:=Option.some.inj (r.abs.symm.trans q.abs)
theorem Vals.inj:∀{xs ys:List V}{us:List Value},Vals xs us->Vals ys us->xs=ys
 |_,_,_, .nil, .nil=>rfl
 |_,_,_, .cons r t, .cons r' t'=>by rw[r.inj r',Vals.inj t t']
section
variable {X:Cx} {pins:List (Addr×Obj)} {σ:St} {H:Hp} {s:Shared} {a:Addr} {xs ys:List V}
theorem bX.of{K:PySem.W.Frag}(h:H a=some (.lst xs)):bX K H a xs:= .inl (.inl h)
theorem eB.of{K:PySem.W.Frag}(h:H a=some (.tup xs)):eB K H a xs:= .inl (.inl h)
theorem Inv.list(I:Inv X pins σ H s)(h:bX X.K H a xs):∃its:List Value,Vals xs its/\PlainL s.heap a its.toArray/\xs.length<=sizeLine:=by
 rcases h with h| ⟨o,its,n,hk,hc,hd,hs,hz,r⟩
 ·obtain⟨z,its,n,r,e⟩:=h.ok I.hok
  exact⟨its,r,⟨_,n,e,rfl,rfl,rfl⟩,z⟩
 ·refine⟨its.toList,r,⟨o,n,I.il a o hk,hc,hd,by simpa using hs⟩,?_⟩
  have e:=r.length;simp only[n9] at e;omega
theorem Inv.tuple(I:Inv X pins σ H s)(h:eB X.K H a xs):∃its:List Value,Vals xs its/\IsTup s.heap a its.toArray/\xs.length<=sizeLine:=by
 rcases h with h| ⟨o,its,n,hk,hc,hs,hz,r⟩
 ·obtain⟨z,its,r,p⟩:=h.ok I.hok
  exact⟨its,r,p,z⟩
 ·refine⟨its.toList,r,⟨o,I.il a o hk,hc,n,by simpa using hs⟩,?_⟩
  have e:=r.length;simp only[n9] at e;omega
theorem Inv.yL(I:Inv X pins σ H s)(h:bX X.K H a xs)(h':bX X.K H a ys):xs=ys:=by
 rfl';obtain⟨its,r,⟨o,n,e,_,_,d⟩,_⟩:=I.list h;obtain⟨its',r',⟨o',n',e',_,_,d'⟩,_⟩:=I.list h';ac_rfl;rw[e] at e';cases e';rw[d] at d'
 injection d' with d1 _
 have:its=its':=by simpa using congrArg Array.toList d1
 subst this;exact r.inj r'
end
abbrev Cx.pk(X:Cx)(E:Value->Shared->Prop):Cx:={X with xe:=E}
abbrev Cx.jE(X:Cx):Cx:=X.pk λ_ _=>False
theorem Cx.Ok.pk{X:Cx}(ok:X.Ok)(E:Value->Shared->Prop):(X.pk E).Ok:=
 ⟨ok.mod,ok.kind,ok.glob,ok.blt,ok.above,ok.inj,ok.has,ok.cab,ok.hd,ok.frames,ok.stk,ok.exf,ok.bs,ok.bsz,ok.noex,ok.exfs,ok.funs,ok.frf⟩
theorem Cx.Ok.jW{X:Cx}{E:Value->Shared->Prop}(ok:(X.pk E).Ok):X.Ok:=
 ⟨ok.mod,ok.kind,ok.glob,ok.blt,ok.above,ok.inj,ok.has,ok.cab,ok.hd,ok.frames,ok.stk,ok.exf,ok.bs,ok.bsz,ok.noex,ok.exfs,ok.funs,ok.frf⟩
section
variable {X:Cx} {pins:List (Addr×Obj)} {σ:St} {H:Hp} {s:Shared} {E:Value->Shared->Prop}
theorem Inv.pk(I:Inv X pins σ H s)(E:Value->Shared->Prop):Inv (X.pk E) pins σ H s:=⟨I.ok.pk E,I.os,I.bare,I.base,I.loc,I.cell,I.free,I.freeC,I.pin,I.hok,I.len⟩
theorem Inv.jW(I:Inv (X.pk E) pins σ H s):Inv X pins σ H s:=⟨I.ok.jW,I.os,I.bare,I.base,I.loc,I.cell,I.free,I.freeC,I.pin,I.hok,I.len⟩
theorem SP.jW{D:Ends}{f:Flow}{s':Shared}(h:SP (X.pk E) pins D f s'):SP X pins D f s':=by
 cases f with
 |next=>obtain⟨aC,H',I,q⟩:=h;exact⟨aC,H',I.jW,q⟩
 |brk=>obtain⟨aC,H',I,q⟩:=h;exact⟨aC,H',I.jW,q⟩
 |cont=>obtain⟨aC,H',I,q⟩:=h;exact⟨aC,H',I.jW,q⟩
 |ret u=>obtain⟨v,aC,H',I,r,q⟩:=h;exact⟨v,aC,H',I.jW,r,q⟩
theorem lj.jE{st:List Stmt}{t:TS}(h:lj X.jE st t):lj X st t:=λpins s σ H D I hw=>
 wpAny_mono (h pins s σ H D (I.pk _) hw) (λ_ _ q=>q.jW) λ_ _ z=>False.elim z
end
section
variable {X:Cx} {st:Stmt} {rest:List Stmt} {t u:TS} {e:Expr} {te:TE} {pos:Pos}
def RU:TS:=λD σ H=>D.nx σ H
def aaf(t u:TS):TS:=λD σ H=>t {D with nx:=u D} σ H
theorem BS:lj X [] RU:=λ_ _ σ H _ I h=>wpAny_execs_nil ⟨σ,H,I,h⟩
theorem gX(h1:PS X st t)(h2:lj X rest u):lj X (st::rest) (aaf t u):=by
 intro pins s σ H D I h;refine wpAny_execs_cons (thn (h1 pins s σ H {D with nx:=u D} I h) λf s1 q=>?_)
 cases f with
 |next=>
  obtain⟨aC,H',I',q⟩:=q;exact h2 pins s1 aC H' D I' q
 |ret v=>exact q
 |brk=>exact q
 |cont=>exact q
theorem rF(h1:PS X st t):lj X [st] t:=by
 intro pins s σ H D I h;refine wpAny_execs_cons (thn (h1 pins s σ H D I h) λf s1 q=>?_);cases f with
 |next=>exact wpAny_execs_nil q
 |ret v=>exact q
 |brk=>exact q
 |cont=>exact q
theorem Inv.quiet{pins:List (Addr×Obj)}{σ:St}{H:Hp}{s:Shared}(I:Inv X pins σ H s):interactive X.env=false:=by simp[interactive,I.ok.kind]
def RS(te:TE):TS:=λD σ H=>te σ H λ_ H1=>D.nx σ H1
theorem jr(he:PE X e te)(hs:swapsWith e none pos.line X.env=pure false:=by rfl):PS X (.Expr e pos) (RS te):=by
 intro pins s σ H D I h;exact wpAny_Expr_any (thn (he pins s σ H _ I h) λv s1 ⟨x,H1,I1,r1,q1⟩=>⟨σ,H1,I1,q1⟩) I.quiet hs
def aae(te:TE):TS:=λD σ H=>te σ H D.rt
theorem rD(he:PE X e te):PS X (.Return (some e) pos) (aae te):=by
 intro pins s σ H D I h;exact wpAny_Return_some (thn (he pins s σ H _ I h) λv s1 ⟨x,H1,I1,r1,q1⟩=>⟨x,σ,H1,I1,r1,q1⟩)
def aaa(c:TT)(t u:TS):TS:=λD σ H=>c σ H λb H1=>if b=true then t D σ H1 else u D σ H1
theorem Ka{c:Expr}{a b:List Stmt}{tc:TT}(hc:PT X c tc)(ha:lj X a t)(hb:lj X b u):PS X (.If c a b pos) (aaa tc t u):=by
 intro pins s σ H D I h;refine wpAny_If (thn (hc pins s σ H _ I h) λd s1 ⟨H1,I1,q1⟩=>?_);cases d with
 |true=>exact ha pins s1 σ H1 D I1 q1
 |false=>exact hb pins s1 σ H1 D I1 q1
def Nk:TS:=λ_ _ _=>False
theorem GX:PS X st Nk:=λ_ _ _ _ _ _ h=>h.elim
end
abbrev TG:=V->St->Hp->(St->Hp->Prop)->Prop
abbrev xu:=List V->St->Hp->(St->Hp->Prop)->Prop
def PG(X:Cx)(target:Expr)(t:TG):Prop:=
 ∀(pins:List (Addr×Obj))(s:Shared)(σ:St)(H:Hp)(v:V)(u:Value)(Q:St->Hp->Prop),Inv X pins σ H s->RelV v u->t v σ H Q->
  wpAny (model X.prog X.w) X.A (assign target X.env u) (λ_ s'=>∃aC H',Inv X pins aC H' s'/\Q aC H') X.xe s
def zw(X:Cx)(ts:List Expr)(t:xu):Prop:=
 ∀(pins:List (Addr×Obj))(s:Shared)(σ:St)(H:Hp)(vs:List V)(us:List Value)(Q:St->Hp->Prop),Inv X pins σ H s->Vals vs us->t vs σ H Q->
  wpAny (model X.prog X.w) X.A (assignInOrder ((assignEach ts X.env).map (·.2)) us) (λ_ s'=>∃aC H',Inv X pins aC H' s'/\Q aC H') X.xe s
abbrev HB:=V->V->V->Hp->(Hp->Prop)->Prop
def Nz(X:Cx)(t:HB):Prop:=
 ∀(pins:List (Addr×Obj))(s:Shared)(σ:St)(H:Hp)(o i v:V)(ov iv u:Value)(Q:Hp->Prop),Inv X pins σ H s->RelV o ov->RelV i iv->RelV v u->t o i v H Q->
  wpAny (model X.prog X.w) X.A (setItem ov iv u) (λ_ s'=>∃H',Inv X pins σ H' s'/\Q H') X.xe s
section
variable {X:Cx} {pos:Pos}
def Iz(i:Nat):TG:=λv σ H Q=>Q (σ.set i (some v)) H
theorem BP{i:Nat}{x:Str}(hN:X.N.Nodup)(hi:X.N[i]? =some x)(hx:Loc X.env.scope x)(hf:X.fn x=true\/X.env.scope.names.lookup x=some .local:=by first|exact .inl rfl|exact .inr rfl|assumption):PG X (.Name x pos) (Iz i):=by
 intro pins s σ H v u Q I r h;exact wpAny_assign_Name (kR I hN hi hx r (λs' I'=>⟨_,H,I',h⟩) hf)
def Vr:xu:=λvs σ H Q=>vs= []/\Q σ H
def Qq(t:TG)(u:xu):xu:=λvs σ H Q=>∃v r,vs=v::r/\t v σ H λaC H'=>u r aC H' Q
theorem BQ:zw X [] Vr:=by
 intro pins s σ H vs us Q I r h;obtain⟨e,h⟩:=h;subst e;cases r;exact assignInOrder_nil ⟨σ,H,I,h⟩
theorem yV{e:Expr}{es:List Expr}{t:TG}{u:xu}(h1:PG X e t)(h2:zw X es u)
  (hs:(assignEach (e::es) X.env).map (·.2)=assign e X.env::(assignEach es X.env).map (·.2):=by rfl):zw X (e::es) (Qq t u):=by
 intro pins s σ H vs us Q I r h;obtain⟨v,vr,e1,h⟩:=h;subst e1;cases r with
 |cons r rr=>
  rw[hs];refine assignInOrder_cons (thn (h1 pins s σ H _ _ _ I r h) λ_ s1 bz=>?_);rfl';obtain⟨EB,H1,I1,q1⟩:=bz;ac_rfl;exact h2 pins s1 EB H1 _ _ Q I1 rr q1
def Vt(K:PySem.W.Frag)(n:Nat)(t:xu):TG:=λv σ H Q=>∃a xs,v= .ref a/\eB K H a xs/\xs.length=n/\t xs σ H Q
theorem Ff{es:List Expr}{k:Nat}{t:xu}{n:Nat}(hc:X.calm=true)(h:zw X es t)
  (hn:(assignEach es X.env).length=n:=by rfl) (kF:(assignEach es X.env).findIdx? (·.1)=none:=by rfl):PG X (.Tuple es k pos) (Vt X.K n t):=by
 intro pins s σ H v u Q I r hw;rfl';obtain⟨a,xs,e1,hq,hl,hw⟩:=hw;subst e1;subst r;obtain⟨its,rv,ht,hz⟩:=I.tuple hq;ac_rfl;refine assign_Tuple_tuple (I.ok.hd hc) ht (by simp[hn,<-hl,rv.length]) kF λh' hx=>?_
 have I1:Inv X pins σ H {s with heap:=h'}:=I.kept (t':=s.toks) λb o e=>hx b o (cH (Heap.lt_size e)) e
 exact h pins _ σ H xs _ Q I1 (rv) hw
def Vs(to ti:TE)(t:HB):TG:=λv σ H Q=>to σ H λo H1=>ti σ H1 λi H2=>t o i v H2 λH3=>Q σ H3
theorem rz{o i:Expr}{to ti:TE}{t:HB}(ho:PE X o to)(hi:PE X i ti)(hs:Nz X t)
  (ha:∀v,assign (.Subscript o i pos) X.env v=(do
   let ov <-holding [v] (eval o X.env)
   let iv <-holding [v,ov] (eval i X.env)
   standAt pos
   holding [v,ov,iv] (setItem ov iv v)
   release [v,ov,iv] []):=by intro _;rfl):PG X (.Subscript o i pos) (Vs to ti t):=by
 intro pins s σ H v u Q I r h;rw[ha];refine wpAny_bind (wpAny_holding (thn (ho pins s σ H _ I h) λov s1 bz=>?_));rfl';obtain⟨x,H1,I1,r1,q1⟩:=bz;ac_rfl;refine wpAny_bind (wpAny_holding (thn (hi pins s1 σ H1 _ I1 q1) λiv s2 bz=>?_));rfl';obtain⟨y,H2,I2,r2,q2⟩:=bz;ac_rfl;refine wpAny_bind (wpAny_standAt (wpAny_bind (wpAny_holding (thn (hs pins s2 σ H2 x y v ov iv u _ I2 r1 r2 r q2) λ_ s3 bz=>?_))));rfl';obtain⟨H3,I3,q3⟩:=bz;ac_rfl;exact wpAny_release ⟨σ,H3,I3,q3⟩
def OT(te:TE)(g:TG):TS:=λD σ H=>te σ H λx H1=>g x σ H1 D.nx
theorem oJ{tg e:Expr}{te:TE}{g:TG}(he:PE X e te)(hg:PG X tg g)(hs:swapsWithSole [tg] e pos.line X.env=pure false:=by rfl)(hw:swappedStores [tg] e X.env=pure none:=by rfl)
  (h1:(assignEach [tg] X.env).map (·.2)= [assign tg X.env]:=by rfl):PS X (.Assign [tg] e pos) (OT te g):=by
 intro pins s σ H D I h;refine wpAny_Assign_stores (thn (he pins s σ H _ I h) λv s1 ⟨x,H1,I1,r1,q1⟩=>?_) hs hw;rw[h1];exact thn (hg pins s1 σ H1 x v _ I1 r1 q1) λ_ s2 q=>q
theorem jM{i:Nat}{x:Str}{e:Expr}{te:TE}{pos':Pos}(hN:X.N.Nodup)(hi:X.N[i]? =some x)(hx:Loc X.env.scope x)(he:PE X e te)(hs:swapsWith e (some (.Name x pos')) pos.line X.env=pure false:=by rfl)(hf:X.fn x=true\/X.env.scope.names.lookup x=some .local:=by first|exact .inl rfl|exact .inr rfl|assumption):
  PS X (.Assign [.Name x pos'] e pos) (OT te (Iz i)):=by
 intro pins s σ H D I h;refine wpAny_Assign_Name (thn (he pins s σ H _ I h) λv s1 ⟨y,H1,I1,r1,q1⟩=>?_) hs;exact kR I1 hN hi hx r1 (λs2 I2=>⟨_,H1,I2,q1⟩) hf
def aad(i j:Nat)(ta:TA):TS:=λD σ H=>ta σ H λvs H1=>∃v w,vs= [v,w]/\D.nx ((σ.set i (some v)).set j (some w)) H1
theorem MS{i j:Nat}{x y:Str}{a b:Expr}{ta:TA}{px py pt:Pos}{kt k2 D9}(hc:X.calm=true)(hN:X.N.Nodup)(hi:X.N[i]? =some x)(hj:X.N[j]? =some y)(LP:i≠j)
  (hx:X.env.scope.names.lookup x=some .local) (hy:X.env.scope.names.lookup y=some .local) (ha:PA X [a,b] ta)
  (hw:swappedStores [.Tuple [.Name x px, .Name y py] kt pt] (.Tuple [a,b] k2 D9) X.env=pure (some [x,y]))
  (hs:swapsWithSole [.Tuple [.Name x px, .Name y py] kt pt] (.Tuple [a,b] k2 D9) pos.line X.env=pure false:=by rfl):
  PS X (.Assign [.Tuple [.Name x px, .Name y py] kt pt] (.Tuple [a,b] k2 D9) pos) (aad i j ta):=by
 intro pins s σ H D I h;rw[exec_Assign_arm];refine wpAny_bind (wpAny_standAt ?_);rw[hs];refine wpAny_bind (wpAny_pure ?_);rw[if_neg (by decide)]
 refine wpAny_bind (Tuple_ (thn (ha _ pins s σ H _ I h) λus s1 bz=>?_));obtain⟨vs,H1,I1,r1,q1⟩:=bz;obtain⟨v,w,e1,q1⟩:=q1;subst e1
 obtain⟨u1,u2,rfl,rv,tF⟩:∃u1 u2,us= [u1,u2]/\RelV v u1/\RelV w u2:=by
  cases r1 with
  |cons p q=>
   cases q with
   |cons p' q'=>
    cases q';exact⟨_,_,rfl,p,p'⟩
 refine wpAny_newObj_type ?_ (by show 2<=sizeLine;decide)
 have I2:Inv X pins σ H1 {s1 with heap:=s1.heap.push {cls:= .type "tuple",data:= .seq [u1,u2].toArray}}:=I1.kept (t':=s1.toks) λb o e=>Heap.get?_push_of_some _ e
 rw[hw];refine wpAny_bind (wpAny_pure ?_);show wpAny (model X.prog X.w) X.A (do rule "assign.swapped-stores";let items <-unpackItems (.ref s1.heap.objs.size) 2 none;assignInOrder [λv=>bindName X.env y v,λv=>bindName X.env x v] items.reverse;pure Flow.next) _ _ _
 refine wpAny_bind (wpAny_rule (wpAny_bind (unpackItems_tuple (items:= #[u1,u2]) (I.ok.hd hc) (IsTup.new s1.heap _) λh' qK=>?_)));have I3:=I2.kept (h':=h') (t':=s1.toks) λb o e=>qK b o (cH (Heap.lt_size e)) e;show wpAny _ _ (assignInOrder [λv=>bindName X.env y v,λv=>bindName X.env x v] [u2,u1]>>=λ_=>pure Flow.next) _ _ _;refine wpAny_bind (assignInOrder_cons (wpAny_bindName (kR I3 hN hj (.inl hy) tF (λs2 I4=>?_) (.inr hy))));refine assignInOrder_cons (wpAny_bindName (kR I4 hN hi (.inl hx) rv (λs3 I5=>assignInOrder_nil (wpAny_pure ?_)) (.inr hx)));rw[List.set_comm _ _ (Ne.symm LP)] at I5;exact⟨_,H1,I5,q1⟩
end
section
variable {X:Cx} {pos:Pos}
def Nl(c:TT)(tb:TS):TS:=λD σ H=>∃W:Nat->St->Hp->Prop,(∃m,W m σ H)/\∀m σ H,W m σ H->
 c σ H λb H1=>if b=true then ∃N:St->Hp->Prop,(∀aC H',N aC H'->∃m',m'<m/\W m' aC H')/\tb {D with nx:=N,ct:=N,bk:=D.nx} σ H1 else D.nx σ H1
theorem GY{c:Expr}{body:List Stmt}{tc:TT}{tb:TS}(hp:PassesOwn (model X.prog X.w) X.A X.env X.xe)(hc:PT X c tc)(hb:lj X body tb):PS X (.While c body [] pos) (Nl tc tb):=by
 intro pins s σ H D I h;obtain⟨W,⟨m0,w0⟩,turn⟩:=h;refine wpAny_While (codeAny_whileLoop (λn s'=>∃aC H',Inv X pins aC H' s'/\W n aC H') ?_ m0 ⟨σ,H,I,w0⟩);intro n s1 R6;rfl';obtain⟨EB,H1,I1,w1⟩:=R6;ac_rfl;refine wpAny_passesOwn hp (thn (hc pins s1 EB H1 _ I1 (turn n EB H1 w1)) λb s2 bz=>?_);rfl';obtain⟨H2,I2,q2⟩:=bz;ac_rfl;cases b with
 |true=>
  rfl';obtain⟨N,hN,q2⟩:=q2;ac_rfl;rw[if_pos rfl];refine wpAny_passesOwn hp (thn (hb pins s2 EB H2 _ I2 q2) λf s3 q3=>?_);cases f with
  |next=>
   obtain⟨uG,H3,I3,n3⟩:=q3;obtain⟨m',hm,w3⟩:=hN uG H3 n3;exact⟨m',hm,uG,H3,I3,w3⟩
  |cont=>
   obtain⟨uG,H3,I3,n3⟩:=q3;obtain⟨m',hm,w3⟩:=hN uG H3 n3;exact⟨m',hm,uG,H3,I3,w3⟩
  |brk=>exact q3
  |ret v=>exact q3
 |false=>
  rw[if_neg cB];exact wpAny_execs_nil ⟨EB,H2,I2,q2⟩
end
structure It where
 go:Nat->Hp->Prop
 yld:Nat->Hp->V->Hp->Prop
 stop:Nat->Hp->Prop
def fo(X:Cx)(pins:List (Addr×Obj))(H:Hp)(b:Addr):Prop:=
 H b=none/\b≠X.env.locals/\b∉X.fs/\(b∈X.ex\/X.s₀.heap.objs.size<=b)/\(∀x c,X.env.cells.lookup x=some c->c≠b)/\∀p∈X.pn++pins,p.1≠b
theorem Inv.EU{X:Cx}{pins:List (Addr×Obj)}{σ:St}{H H':Hp}{s:Shared}{b:Addr}(I:Inv X pins σ H s)(hb:s.heap.objs.size<=b)(hn:H' b=none):fo X pins H' b:=by
 refine⟨hn,Nat.ne_of_gt (gK I.lt hb),I.OM hb, .inr (mG I.sz hb),λx c e z=>?_,λp hp z=>?_⟩
 ·obtain⟨v,q⟩:=I.cell x c e
  exact absurd (gK q.lt (by rw[z];exact hb)) (gI _)
 ·exact absurd (gK (Heap.lt_size (I.pin p hp).1) (by rw[z];exact hb)) (gI _)
structure Turn (P:Program) (w:World) (K:PySem.W.Frag) (tg:Expr) (J:It) (fp:List Addr) (it:Addr) (tn:Nat->Heap->Prop):Prop where
 mem:it∈fp
 obj:∀i h,tn i h->∀b∈fp,∃o,h.get? b=some o/\∀v,o.data≠ .cell v
 keep:∀i h h',tn i h->(∀b∈fp,∀o,h.get? b=some o->h'.get? b=some o)->tn i h'
 item:∀(X:Cx),X.prog=P->X.w=w->X.K=K->X.calm=true->∀(i:Nat)(pins:List (Addr×Obj))(s:Shared)(σ:St)(H:Hp)(E:Value->Shared->Prop),Inv X pins σ H s->(∀b∈fp,fo X pins H b)->tn i s.heap->J.go i H->
  wpAny (model P w) X.A (pyNext (.ref it)) (λr s1=>∃u,r=some u/\
   wpAny (model P w) X.A (letOwnedTupleGo tg (.ref it) u) (λ_ s2=>∃x H',Inv X pins σ H' s2/\RelV x u/\J.yld i H x H'/\tn (i+1) s2.heap/\∀b∈fp,H' b=none) E s1) E s
 done:∀(X:Cx),X.prog=P->X.w=w->X.K=K->X.calm=true->∀(i:Nat)(pins:List (Addr×Obj))(s:Shared)(σ:St)(H:Hp)(E:Value->Shared->Prop),Inv X pins σ H s->(∀b∈fp,fo X pins H b)->tn i s.heap->J.stop i H->
  wpAny (model P w) X.A (pyNext (.ref it)) (λr s1=>r=none/\Inv X pins σ H s1) E s
 self:∀(A:Around)(i:Nat)(s:Shared)(Q:Value->Shared->Prop)(E:Value->Shared->Prop),tn i s.heap->Q (.ref it) s->wpAny (model P w) A (pyIter (.ref it)) Q E s
abbrev TI:=St->Hp->(It->Hp->Prop)->Prop
def Sj(X:Cx)(pins:List (Addr×Obj))(σ:St)(tg:Expr)(R:It->Hp->Prop)(xM:Value)(s2:Shared):Prop:=
 ∃(it:Addr)(fp:List Addr)(tn:Nat->Heap->Prop)(J:It)(H':Hp),xM= .ref it/\Inv X pins σ H' s2/\Turn X.prog X.w X.K tg J fp it tn/\tn 0 s2.heap/\(∀b∈fp,fo X pins H' b)/\R J H'
def PI(X:Cx)(tg iter:Expr)(wi:TI):Prop:=
 ∀(pins:List (Addr×Obj))(s:Shared)(σ:St)(H:Hp)(R:It->Hp->Prop),Inv X pins σ H s->wi σ H R->
  wpAny (model X.prog X.w) X.A (eval iter X.env) (λv s1=>wpAny (model X.prog X.w) X.A (pyIter v) (Sj X pins σ tg R) X.xe s1) X.xe s
theorem IC{M:Model}{A:Around}{E:Value->Shared->Prop}{s:Shared}{tg:Expr}{it:Addr}{u:Value}{o:Obj}{n:String}{vs:Array Value}{Q:Unit->Shared->Prop}(ho:s.heap.get? it=some o)(hc:o.cls= .type n)(hd:o.data= .fields vs)
  (hn: ["enumerate","zip","dict_itemiterator","dict_reverseitemiterator","odict_iterator","itertools.zip_longest","itertools.pairwise"].contains n=false) (hQ:Q () s):wpAny M A (letOwnedTupleGo tg (.ref it) u) Q E s:=by
 unfold letOwnedTupleGo
 cases tg<;>first
  |exact wpAny_pure hQ
  | (cases u<;>first
    |exact wpAny_pure hQ
    | (refine wpAny_bind (wpAny_load ho ?_)
       rw[hc,hd];show wpAny M A (if (["enumerate","zip","dict_itemiterator","dict_reverseitemiterator","odict_iterator","itertools.zip_longest","itertools.pairwise"].contains n&&vs[0]? ==some (rawInt _))=true then _ else _) Q E s;rw[if_neg (by intro h;rw[hn,wY] at h;cases h)]
       exact wpAny_pure hQ))
def O4(K:PySem.W.Frag)(a:Addr):It:=
 ⟨λi H=>∃xs x,bX K H a xs/\xs[i]? =some x,λi H x H'=>H'=H/\∀xs,bX K H a xs->xs[i]? =some x,λi H=>∃xs,bX K H a xs/\xs.length<=i⟩
def Ht(lo:Int)(n:Nat):It:=⟨λi _=>i<n,λi H x H'=>H'=H/\x= .int (lo+i),λi _=>n<=i⟩
theorem Ep{P:Program}{w:World}{K:PySem.W.Frag}{tg:Expr}(a it:Addr):Turn P w K tg (O4 K a) [it] it (λi h=>h.IsListIter it a i) where
 mem:=by simp
 obj:=λi h st b hb=>by
  have e:b=it:=by simpa using hb
  subst e;obtain⟨o,e,c,d⟩:=st;exact⟨o,e,λv z=>by rw[d] at z;cases z⟩
 keep:=λi h h' st k=>st.at λo e=>k it (by simp) o e
 item:=by
  intro X hP hw hK hc i pins s σ H E I hf st hg;rfl';subst hP hw hK;obtain⟨xs,x,hq,hx⟩:=hg;obtain⟨its,rv,p,hz⟩:=I.list hq;obtain⟨u,hu,ru⟩:=rv.get hx;obtain⟨f0,f1,f2,f3,f4,f5⟩:=hf it (by simp)
  ac_rfl;refine wpAny_pyNext_list_item st p.isList (x:=u) (by simpa using hu) λh' KN sb=>?_
  have I1:Inv X pins σ H {s with heap:=h'}:=I.turned (t':=s.toks) (λb o hb e=>(sb.2 b hb).trans e) f0 f1 f3 f4 f5
  obtain⟨o,e,c,d⟩:=id KN;exact⟨u,rfl,IC (s:={s with heap:=h'}) e c d (by decide) ⟨x,H,I1,ru,⟨rfl,λys hy=>by rw[I.yL hy hq];exact hx⟩,KN,λb hb=>(hf b hb).1⟩⟩
 done:=by
  intro X hP hw hK hc i pins s σ H E I hf st hg;rfl';subst hP hw hK;obtain⟨xs,hq,hx⟩:=hg;obtain⟨its,rv,p,hz⟩:=I.list hq;obtain⟨f0,f1,f2,f3,f4,f5⟩:=hf it (by simp)
  have hl:=rv.length;ac_rfl;exact wpAny_pyNext_list_end (I.ok.hd hc) st p.isList (by simp;omega) λh' eb=>⟨rfl,I.turned (t':=s.toks) (λb o hb e=>eb b o hb e) f0 f1 f3 f4 f5⟩
 self:=λ_ _ _ _ _ st h=>wpAny_pyIter_listiter st h
theorem Ci{P:Program}{w:World}{K:PySem.W.Frag}{tg:Expr}(it:Addr)(lo:Int)(n:Nat):Turn P w K tg (Ht lo n) [it] it (λi h=>IsRangeIter h it (lo+(i:Nat)*1) ((n:Int)-(i:Nat)) 1) where
 mem:=by simp
 obj:=λi h st b hb=>by
  have e:b=it:=by simpa using hb
  subst e
  exact⟨_,st,λv z=>by
   have z':Data.fields _=Data.cell v:=z;cases z'⟩
 keep:=λi h h' st k=>k it (by simp) _ st
 item:=by
  intro X hP hw hK hc i pins s σ H E I hf st hg;subst hP hw hK;rfl';obtain⟨f0,f1,f2,f3,f4,f5⟩:=hf it (by simp)
  ac_rfl;have W:=Walks.range (prog:=X.prog) (w:=X.w) (I.ok.hd hc) it lo 1 n;refine W.item i s _ _ hg st λv h' tk hv KN kk=>?_;obtain⟨t,rfl⟩:=hv;have I1:Inv X pins σ H {s with heap:=h',toks:=tk}:=I.turned (λb o hb e=>kk b o (by simpa using hb) e) f0 f1 f3 f4 f5
  refine⟨_,rfl,IC (s:={s with heap:=h',toks:=tk}) (n:="range_iterator") KN rfl rfl (by decide) ⟨.int (lo+i),H,I1,⟨t,?_⟩,⟨rfl,rfl⟩,KN,λb hb=>(hf b hb).1⟩⟩
  rw[Int.mul_one]
 done:=by
  intro X hP hw hK hc i pins s σ H E I hf st hg;subst hP hw hK;rfl';obtain⟨f0,f1,f2,f3,f4,f5⟩:=hf it (by simp)
  ac_rfl;exact wpAny_pyNext_range_end (I.ok.hd hc) st (by have:n<=i:=hg;omega) λh' eb=>⟨rfl,I.turned (t':=s.toks) (λb o hb e=>eb b o hb e) f0 f1 f3 f4 f5⟩
 self:=λ_ _ _ _ _ st h=>wpAny_pyIter_rangeiter st h
section
variable {X:Cx} {tg:Expr}
def Q3(K:PySem.W.Frag)(tl:TE):TI:=λσ H R=>tl σ H λx H1=>∃a,x= .ref a/\(∃xs,bX K H1 a xs)/\R (O4 K a) H1
theorem J5{l:Expr}{tl:TE}(hl:PE X l tl):PI X tg l (Q3 X.K tl):=by
 intro pins s σ H R I h;refine thn (hl pins s σ H _ I h) λv s1 bz=>?_;rfl';obtain⟨x,H1,I1,r1,q1⟩:=bz;ac_rfl;rfl';obtain⟨a,e,⟨xs,hq⟩,q⟩:=q1;subst e;subst r1;obtain⟨its,rv,p,hz⟩:=I1.list hq;ac_rfl;refine wpAny_pyIter_list p.isList ?_;refine⟨s1.heap.objs.size,[s1.heap.objs.size],_,_,H1,rfl,I1.kept (t':=s1.toks) λb o e=>Heap.get?_push_of_some _ e,Ep a _,⟨_,Heap.get?_push_size _ rfl,rfl,rfl⟩,λb hb=>?_,q⟩;have e:b=s1.heap.objs.size:=by simpa using hb
 subst e;exact I1.EU (br _) (I1.hok.fresh (br _))
theorem y0{pins:List (Addr×Obj)}{σ:St}{H:Hp}{s:Shared}{R:It->Hp->Prop}{E:Value->Shared->Prop}{lo hi:Int}{t u v:Tok}{tk:Nat}(I:Inv X pins σ H s)(h1: -(2^62)<=lo)(h2:lo<2^62)(h3: -(2^62)<=hi)(h4:hi<2^62)
  (q:R (Ht lo (hi-lo).toNat) H):wpAny (model X.prog X.w) X.A (pyIter (.ref s.heap.objs.size)) (Sj X pins σ tg R) E {s with heap:=s.heap.push {cls:= .type "range",data:= .fields #[.int lo t, .int hi u, .int 1 v]},toks:=tk}:=by
 refine wpAny_pyIter_range (IsRange.new ..) (small_one h1 h2 h3 h4) ?_;have I1:Inv X pins σ H {s with heap:=s.heap.push {cls:= .type "range",data:= .fields #[.int lo t, .int hi u, .int 1 v]},toks:=tk}:=I.kept λb o e=>Heap.get?_push_of_some _ e
 refine⟨(s.heap.push {cls:= .type "range",data:= .fields #[.int lo t, .int hi u, .int 1 v]}).objs.size,[(s.heap.push {cls:= .type "range",data:= .fields #[.int lo t, .int hi u, .int 1 v]}).objs.size],_,_,H,rfl,
  I1.kept (t':=tk) λb o e=>Heap.get?_push_of_some _ e,Ci _ lo (hi-lo).toNat,?_,λb hb=>?_,q⟩
 ·have e1:lo+((0:Nat):Int)*1=lo:=by simp
  have e2:(((hi-lo).toNat:Nat):Int)-((0:Nat):Int)=Builtin.Range.rangeSize lo hi 1:=by rw[rangeSize_one];split<;>omega
  show IsRangeIter _ _ (lo+((0:Nat):Int)*1) ((((hi-lo).toNat:Nat):Int)-((0:Nat):Int)) 1;rw[e1,e2];exact Heap.get?_push_size _ rfl
 ·have e:b=(s.heap.push {cls:= .type "range",data:= .fields #[.int lo t, .int hi u, .int 1 v]}).objs.size:=by simpa using hb
  subst e;exact I1.EU (br _) (I1.hok.fresh (br _))
def Q4(ta:TA):TI:=λσ H R=>ta σ H λvs H1=>∃j:Int,vs= [.int j]/\-(2^62)<=j/\j<2^62/\R (Ht 0 j.toNat) H1
def Q5(ta:TA):TI:=λσ H R=>ta σ H λvs H1=>∃i j:Int,vs= [.int i, .int j]/\(-(2^62)<=i/\i<2^62/\-(2^62)<=j/\j<2^62)/\R (Ht i (j-i).toNat) H1
theorem wz{a:Expr}{ta:TA}{p pos:Pos}(hg:Gl X "range")(hm:X.mg "range"=none)(ha:PA X [a] ta)(hs:starEach [a] X.env= [(false,eval a X.env)]:=by rfl):PI X tg (.Call (.Name "range" p) [a] [] pos) (Q4 ta):=by
 intro pins s σ H R I h;refine Call_ (hU I hg hm boot_range (PyProof.Rows.callWith_type1 (thn (ha pos pins s σ H _ I h) λus s1 ⟨vs,H1,I1,r1,q1⟩=>?_) hs rfl));obtain⟨j,e,q1,q2,q⟩:=q1;subst e;cases r1 with
 |cons r rr=>
  cases rr;obtain⟨t,rfl⟩:=r;exact call_range_1 (y0 I1 (by omega) (by omega) q1 q2 (by simpa using q))
theorem D6{a b:Expr}{ta:TA}{p pos:Pos}(hg:Gl X "range")(hm:X.mg "range"=none)(ha:PA X [a,b] ta)(hs:starEach [a,b] X.env= [(false,eval a X.env),(false,eval b X.env)]:=by rfl)(gT:starEach [b] X.env= [(false,eval b X.env)]:=by rfl):
  PI X tg (.Call (.Name "range" p) [a,b] [] pos) (Q5 ta):=by
 intro pins s σ H R I h;refine Call_ (hU I hg hm boot_range (PyProof.Rows.callWith_type1 (thn (ha pos pins s σ H _ I h) λus s1 ⟨vs,H1,I1,r1,q1⟩=>?_) (by rw[hs,gT]) (by rw[gT];rfl)))
 obtain⟨i,j,e,⟨q1,q2,q3,q4⟩,q⟩:=q1;subst e;cases r1 with
 |cons r rr=>
  cases rr with
  |cons r' rr=>
   cases rr;obtain⟨t,rfl⟩:=r;obtain⟨t',rfl⟩:=r';exact call_range_2 (y0 I1 q1 q2 q3 q4 q)
def Z9(wi:TI)(g:TG)(tb:TS):TS:=λD σ H=>wi σ H λJ H1=>∃W:Nat->Nat->St->Hp->Prop,(∃m,W 0 m σ H1)/\∀i m σ H,W i m σ H->
 (J.stop i H/\D.nx σ H)\/(J.go i H/\∃N:St->Hp->Prop,(∀aC H',N aC H'->∃m',m'<m/\W (i+1) m' aC H')/\∀x H',J.yld i H x H'->g x σ H' λfF H2=>tb {D with nx:=N,ct:=N,bk:=D.nx} fF H2)
def lK(fp:List Addr)(h:Heap):List (Addr×Obj):=fp.filterMap λb=>(h.get? b).map λo=>(b,o)
theorem eO{fp:List Addr}{h:Heap}{b:Addr}{o:Obj}(hb:b∈fp)(e:h.get? b=some o):(b,o)∈lK fp h:=zq93.mpr ⟨b,hb,by rw[e];rfl⟩
theorem DY{fp:List Addr}{h:Heap}{p:Addr×Obj}(hp:p∈lK fp h):p.1∈fp/\h.get? p.1=some p.2:=by
 obtain⟨b,hb,e⟩:=zq93.mp hp;cases q:h.get? b with
 |none=>rw[q] at e;cases e
 |some o=>
  rw[q] at e;have e':(b,o)=p:=Option.some.inj e;subst e';exact⟨hb,q⟩
theorem Inv.pinned{pins:List (Addr×Obj)}{σ:St}{H:Hp}{s:Shared}{fp:List Addr}(I:Inv X pins σ H s)(hf:∀b∈fp,fo X pins H b)(ho:∀b∈fp,∃o,s.heap.get? b=some o/\∀v,o.data≠ .cell v):Inv X (pins++lK fp s.heap) σ H s:=
 I.rA λp hp=>(fR.mp hp).elim (λz=>I.pin p (dQ _ z)) λz=>by
  rfl';obtain⟨hb,e⟩:=DY z;obtain⟨f0,f1,f2,_⟩:=hf p.1 hb;obtain⟨o,e',d⟩:=ho p.1 hb;ac_rfl;rw[e] at e';cases e';exact⟨e,f0,f1,f2,d⟩
theorem Inv.i7{pins pl:List (Addr×Obj)}{σ:St}{H:Hp}{s:Shared}(I:Inv X (pins++pl) σ H s):Inv X pins σ H s:=I.rA λp hp=>I.pin p (dQ _ (mE _ hp))
theorem Fg{iter:Expr}{body:List Stmt}{wi:TI}{g:TG}{tb:TS}{pos:Pos}(hp:PassesOwn (model X.prog X.w) X.A X.env X.xe)(hc:X.calm=true)(hi:PI X tg iter wi)(hg:PG X tg g)(hb:lj X body tb)
  (hs:∀x,foldedSetIterable iter X.env x=pure x:=by intro _;rfl):PS X (.For tg iter body [] pos) (Z9 wi g tb):=by
 intro pins s σ H D I h;refine wpAny_For (thn (hi pins s σ H _ I h) λv s1 h1=>thn h1 λxM s2 h2=>?_) hs;rfl';obtain⟨it,fp,tn,J,H2,e,I2,T,iC,f2,W,⟨m0,w0⟩,turn⟩:=h2;subst e;ac_rfl;have stat:∀{H':Hp},(∀b∈fp,H' b=none)->∀b∈fp,fo X pins H' b:=λhn b hb=>⟨hn b hb,(f2 b hb).2⟩;refine codeAny_forLoop_any (λn s'=>∃i aC H',Inv X pins aC H' s'/\tn i s'.heap/\(∀b∈fp,H' b=none)/\W i n aC H') ?_ m0 ⟨0,σ,H2,I2,iC,λb hb=>(f2 b hb).1,w0⟩;intro n s3 R6;rfl';obtain⟨i,uG,H3,I3,Ca,Vp,w3⟩:=R6;ac_rfl
 rcases turn i n uG H3 w3 with ⟨stop,qn⟩ | ⟨go,N,hN,step⟩
 ·refine wpAny_passesOwn hp (thn (T.done X rfl rfl rfl hc i pins s3 uG H3 X.xe I3 (stat Vp) Ca stop) λr s4 bz=>?_)
  obtain⟨hr,I4⟩:=bz;subst hr;exact wpAny_execs_nil ⟨uG,H3,I4,qn⟩
 ·refine wpAny_passesOwn hp (thn (T.item X rfl rfl rfl hc i pins s3 uG H3 X.xe I3 (stat Vp) Ca go) λr s4 bz=>?_)
  obtain⟨u,hr,h4⟩:=bz;subst hr;refine wpAny_passesOwn hp (thn h4 λ_ s5 bz=>?_);rfl';obtain⟨x,H5,I5,r5,y5,uD,xG⟩:=bz;ac_rfl;have O2:=I5.pinned (stat xG) (T.obj _ _ uD);refine wpAny_passesOwn hp (thn (hg _ s5 uG H5 x u _ O2 r5 (step x H5 y5)) λ_ s6 bz=>?_);rfl';obtain⟨σ6,H6,I6,q6⟩:=bz;ac_rfl;refine wpAny_passesOwn hp (thn (hb _ s6 σ6 H6 _ I6 q6) λf s7 q7=>?_)
  have again:∀{sh:St}{H7:Hp},Inv X (pins++lK fp s5.heap) sh H7 s7->N sh H7->∃m,m<n/\∃i aC H',Inv X pins aC H' s7/\tn i s7.heap/\(∀b∈fp,H' b=none)/\W i m aC H':=λ {sh H7} I7 n7=>by
   obtain⟨m',hm,w7⟩:=hN sh H7 n7;refine⟨m',hm,i+1,sh,H7,I7.i7,T.keep _ _ _ uD λb hb o e=>(I7.pin (b,o) (dQ _ (dQ _ (eO hb e)))).1,λb hb=>?_,w7⟩;obtain⟨o,e,d⟩:=T.obj _ _ uD b hb;exact(I7.pin (b,o) (dQ _ (dQ _ (eO hb e)))).2.1
  cases f with
  |next=>obtain⟨sh,H7,I7,n7⟩:=q7;exact again I7 n7
  |cont=>obtain⟨sh,H7,I7,n7⟩:=q7;exact again I7 n7
  |brk=>obtain⟨sh,H7,I7,q7⟩:=q7;exact⟨sh,H7,I7.i7,q7⟩
  |ret v=>obtain⟨x7,sh,H7,I7,r7,q7⟩:=q7;exact⟨x7,sh,H7,I7.i7,r7,q7⟩
end
abbrev R2:=V->V->Hp->VK->Prop
def OpR(X:Cx)(f:Value->Value->Sem Value)(r:R2):Prop:=
 ∀(pins:List (Addr×Obj))(s:Shared)(σ:St)(H:Hp)(x y:V)(v u:Value)(Q:VK),Inv X pins σ H s->RelV x v->RelV y u->r x y H Q->
  wpAny (model X.prog X.w) X.A (f v u) (EP X pins σ Q) X.xe s
def cU(X:Cx)(f:Value)(r:List V->Hp->VK->Prop):Prop:=
 ∀(pins:List (Addr×Obj))(s:Shared)(σ:St)(H:Hp)(xs:List V)(us:List Value)(Q:VK),Inv X pins σ H s->Vals xs us->r xs H Q->
  wpAny (model X.prog X.w) X.A (call f us) (EP X pins σ Q) X.xe s
def Sm(X:Cx)(r:V->Hp->(Bool->Hp->Prop)->Prop):Prop:=
 ∀(pins:List (Addr×Obj))(s:Shared)(σ:St)(H:Hp)(x:V)(v:Value)(Q:Bool->Hp->Prop),Inv X pins σ H s->RelV x v->r x H Q->
  wpAny (model X.prog X.w) X.A (truthy v) (TP X pins σ Q) X.xe s
def KU(r:R2)(ta tb:TE):TE:=λσ H Q=>ta σ H λx H1=>tb σ H1 λy H2=>r x y H2 Q
def rI(C:Int->Int->Prop)(g:Int->Int->V):R2:=λx y H Q=>∃i j,x= .int i/\y= .int j/\C i j/\Q (g i j) H
def xU(g:Int->Int->V):R2:=λx y H Q=>∃i j,x= .int i/\y= .int j/\Q (g i j) H
section
variable {X:Cx} {a b c:Expr} {ta tb tc:TE} {pos:Pos}
theorem HL(ha:PE X a ta)(hb:PE X b tb){pins:List (Addr×Obj)}{s:Shared}{σ:St}{H:Hp}{R:V->V->Hp->Prop}(I:Inv X pins σ H s)
  (h:ta σ H λx H1=>tb σ H1 λy H2=>R x y H2) {Q:Value->Shared->Prop} {f:Value->Value->Sem Value}
  (hf:∀v u s2 x y H2,Inv X pins σ H2 s2->RelV x v->RelV y u->R x y H2->wpAny (model X.prog X.w) X.A (f v u) Q X.xe s2):
  wpAny (model X.prog X.w) X.A (eval a X.env) (λv s₁=>wpAny (model X.prog X.w) X.A (eval b X.env) (λu Ft=>wpAny (model X.prog X.w) X.A (f v u) Q X.xe Ft) X.xe s₁) X.xe s:=by
 refine thn (ha pins s σ H _ I h) λv s1 ⟨x,H1,I1,r1,q1⟩=>?_;refine thn (hb pins s1 σ H1 _ I1 q1) λu s2 ⟨y,H2,I2,r2,q2⟩=>?_;exact hf v u s2 x y H2 I2 r1 r2 q2
theorem wy{op:Operator}{r:R2}(ho:OpR X (binaryOp op) r)(ha:PE X a ta)(hb:PE X b tb):PE X (.BinOp a op b pos) (KU r ta tb):=by
 intro pins s σ H Q I h;exact wpAny_BinOp (HL ha hb I h λv u s2 x y H2 I2 rx ry q=>ho pins s2 σ H2 x y v u Q I2 rx ry q)
theorem Mr{f:Value->Value->Sem Value}{C:Int->Int->Prop}{g:Int->Int->Int}
  (rule:∀(i j:Int)(t u:Tok)(s:Shared)(Q:Value->Shared->Prop)(E:Value->Shared->Prop),C i j->Q (.int (g i j) s.toks) {s with toks:=s.toks+1}->wpAny (model X.prog X.w) X.A (f (.int i t) (.int j u)) Q E s):
  OpR X f (rI C λi j=> .int (g i j)):=by
 intro pins s σ H x y v u Q I rx ry h;obtain⟨i,j,rfl,rfl,hc,q⟩:=h;obtain⟨t,rfl⟩:=rx;obtain⟨t',rfl⟩:=ry;exact rule i j t t' s _ _ hc ⟨.int (g i j),H,I.tok _,⟨_,rfl⟩,q⟩
theorem JL{f:Value->Value->Sem Value}{g:Int->Int->Int}
  (rule:∀(i j:Int)(t u:Tok)(s:Shared)(Q:Value->Shared->Prop)(E:Value->Shared->Prop),Q (.int (g i j) s.toks) {s with toks:=s.toks+1}->wpAny (model X.prog X.w) X.A (f (.int i t) (.int j u)) Q E s):
  OpR X f (xU λi j=> .int (g i j)):=by
 intro pins s σ H x y v u Q I rx ry h;obtain⟨i,j,rfl,rfl,q⟩:=h;obtain⟨t,rfl⟩:=rx;obtain⟨t',rfl⟩:=ry;exact rule i j t t' s _ _ ⟨.int (g i j),H,I.tok _,⟨_,rfl⟩,q⟩
theorem JK{f:Value->Value->Sem Value}{g:Int->Int->Bool}
  (rule:∀(i j:Int)(t u:Tok)(s:Shared)(Q:Value->Shared->Prop)(E:Value->Shared->Prop),Q (.bool (g i j)) s->wpAny (model X.prog X.w) X.A (f (.int i t) (.int j u)) Q E s):
  OpR X f (xU λi j=> .bl (g i j)):=by
 intro pins s σ H x y v u Q I rx ry h;obtain⟨i,j,rfl,rfl,q⟩:=h;obtain⟨t,rfl⟩:=rx;obtain⟨t',rfl⟩:=ry;exact rule i j t t' s _ _ ⟨.bl (g i j),H,I,rfl,q⟩
def Nx(i j:Int):Prop:=0<j/\j<1073741824
def Ny(i j:Int):Prop:=0<=j/\j<=1000000/\i.natAbs<2^64
def EC(i j:Int):Prop:=(-(2^64)<i/\i<2^64)\/(-(2^64)<j/\j<2^64)
theorem EC.ok{i j:Int}(h:EC i j):IntMulOk i j:=by
 rcases h with ⟨h1,h2⟩ | ⟨h1,h2⟩
 ·exact .of_left (intBits_le_64 h1 h2)
 ·exact .of_right (intBits_le_64 h1 h2)
theorem Ms:OpR X (binaryOp .Add) (xU λi j=> .int (i+j)):=JL λ_ _ _ _ _ _ _ q=>add_int q
theorem MC:OpR X (binaryOp .Sub) (xU λi j=> .int (i-j)):=JL λ_ _ _ _ _ _ _ q=>sub_int q
theorem My:OpR X (binaryOp .Mult) (rI EC λi j=> .int (i*j)):=Mr λ_ _ _ _ _ _ _ hc q=>mul_int q hc.ok
theorem JN:OpR X (binaryOp .FloorDiv) (rI Nx λi j=> .int (i / j)):=Mr λi j _ _ _ _ _ hc q=>by
 have h1:(0:Int)<j:=hc.1;have h2:j<1073741824:=hc.2;exact floordiv_int (by omega) (by rw[Int.fdiv_eq_ediv_of_nonneg i (by omega)];exact q) (.inl (PyProof.noPylong_small (by omega)))
theorem Mx:OpR X (binaryOp .Mod) (rI (λ_ j=>0<j) λi j=> .int (i%j)):=Mr λi j _ _ _ _ _ hc q=>by
 have h1:(0:Int)<j:=hc;exact mod_int' (by omega) (by rw[Int.fmod_eq_emod_of_nonneg i (by omega)];exact q)
theorem MA:OpR X (binaryOp .Pow) (rI Ny λi j=> .int (i^j.toNat)):=Mr λ_ _ _ _ _ _ _ hc q=>pow_int_small hc.1 hc.2.1 hc.2.2 q
theorem Mt:OpR X (binaryOp .BitAnd) (xU λi j=> .int (Builtin.bitAnd i j)):=JL λ_ _ _ _ _ _ _ q=>and_int q
end
section
variable {X:Cx} {a b c:Expr} {ta tb tc:TE} {pos:Pos}
theorem zO{pins:List (Addr×Obj)}{σ:St}{H:Hp}{s:Shared}{Q:VK}{k k':Bool}(I:Inv X pins σ H s)(q:Q (.bl k) H)(e:k=k'):EP X pins σ Q (.bool k') s:=by
 subst e;exact⟨.bl k,H,I,rfl,q⟩
theorem Rp:OpR X (compareOp .Lt) (xU λi j=> .bl (decide (i<j))):=JK λ_ _ _ _ _ _ _ q=>lt_int q
theorem Ro:OpR X (compareOp .LtE) (xU λi j=> .bl (decide (i<=j))):=JK λ_ _ _ _ _ _ _ q=>le_int q
theorem Rm:OpR X (compareOp .Gt) (xU λi j=> .bl (decide (j<i))):=JK λ_ _ _ _ _ _ _ q=>gt_int q
theorem Mw:OpR X (compareOp .Is) (λx y H Q=>y= .aZ/\Q (.bl (decide (x= .aZ))) H):=by
 intro pins s σ H x y v u Q I rx ry h;obtain⟨rfl,q⟩:=h;subst ry;refine is_none_gen (zO I q ?_)
 cases x<;>first
  | (cases rx;rfl)
  | (obtain⟨t,rfl⟩:=rx;rfl)
theorem JO:OpR X (compareOp .IsNot) (λx y H Q=>y= .aZ/\Q (.bl (!decide (x= .aZ))) H):=by
 intro pins s σ H x y v u Q I rx ry h;obtain⟨rfl,q⟩:=h;subst ry;refine isnot_none_gen (zO I q ?_)
 cases x<;>first
  | (cases rx;rfl)
  | (obtain⟨t,rfl⟩:=rx;rfl)
theorem OpR.or{f:Value->Value->Sem Value}{r r':R2}(h:OpR X f r)(h':OpR X f r'):OpR X f (λx y H Q=>r x y H Q\/r' x y H Q):=by
 intro pins s σ H x y v u Q I rx ry q
 rcases q with q|q
 ·exact h pins s σ H x y v u Q I rx ry q
 ·exact h' pins s σ H x y v u Q I rx ry q
theorem aR(b:Expr){op:CmpOp}(h:op≠ .In:=by decide)(h2:op≠ .NotIn:=by decide):behindInMarks op b=false:=by
 have e1:(op==CmpOp.In)=false:=by cases op<;>first|rfl|exact absurd rfl h
 have e2:(op==CmpOp.NotIn)=false:=by cases op<;>first|rfl|exact absurd rfl h2
 cases b<;>simp[behindInMarks,e1,e2]
theorem JV{op:CmpOp}{r:R2}(ho:OpR X (compareOp op) r)(ha:PE X a ta)(hb:PE X b tb)(hm:behindInMarks op b=false):PE X (.Compare a [op] [b] pos) (KU r ta tb):=by
 intro pins s σ H Q I h;exact wpAny_Compare1 (HL ha hb I h λv u s2 x y H2 I2 rx ry q=>ho pins s2 σ H2 x y v u Q I2 rx ry q) hm
def El(t:TE):TT:=λσ H Q=>t σ H λx H'=>∃k,x= .bl k/\Q k H'
theorem Kb{op:CmpOp}{r:R2}(ho:OpR X (compareOp op) r)(ha:PE X a ta)(hb:PE X b tb)(hm:behindInMarks op b=false):PT X (.Compare a [op] [b] pos) (El (KU r ta tb)):=by
 intro pins s σ H Q I h
 refine wpAny_isTrue_Compare1 (thn (ha pins s σ H _ I h) λv s1 ⟨x,H1,I1,r1,q1⟩=>thn (hb pins s1 σ H1 _ I1 q1) λu s2 ⟨y,H2,I2,r2,q2⟩=>
  thn (ho pins s2 σ H2 x y v u _ I2 r1 r2 q2) λc s3 ⟨z,H3,I3,r3,k,e,q3⟩=>?_) hm
 subst e;subst r3;exact wpAny_truthy_bool ⟨H3,I3,q3⟩
def Aw(r r':R2)(ta tb tc:TE):TE:=λσ H Q=>ta σ H λx H1=>tb σ H1 λy H2=>r x y H2 λz H3=>∃k,z= .bl k/\
 (if k=true then tc σ H3 λw' H4=>r' y w' H4 Q else Q (.bl false) H3)
theorem GP{op pZ:CmpOp}{r r':R2}(ho:OpR X (compareOp op) r)(ia:OpR X (compareOp pZ) r')(ha:PE X a ta)(hb:PE X b tb)(hc:PE X c tc)
  (hm:lastMarks [op,pZ] [b,c]=false:=by with_unfolding_all rfl):PE X (.Compare a [op,pZ] [b,c] pos) (Aw r r' ta tb tc):=by
 intro pins s σ H Q I h
 refine Compare_chain (thn (ha pins s σ H _ I h) λv s1 ⟨x,H1,I1,r1,q1⟩=>chain_link (thn (hb pins s1 σ H1 _ I1 q1) λu s2 ⟨y,H2,I2,r2,q2⟩=>
  thn (ho pins s2 σ H2 x y v u _ I2 r1 r2 q2) λd s3 ⟨z,H3,I3,r3,k,e,q3⟩=>?_)) hm
 subst e;subst r3;refine wpAny_truthy_bool ?_;cases k with
 |false=>exact ite_ff ⟨.bl false,H3,I3,rfl,q3⟩
 |true=>exact ite_tt (chain_last (thn (hc pins s3 σ H3 _ I3 q3) λw' s4 ⟨z',H4,I4,r4,q4⟩=>ia pins s4 σ H4 y z' u w' Q I4 r2 r4 q4))
theorem GZ{op pZ:CmpOp}{r r':R2}(ho:OpR X (compareOp op) r)(ia:OpR X (compareOp pZ) r')(ha:PE X a ta)(hb:PE X b tb)(hc:PE X c tc)
  (hm:lastMarks [op,pZ] [b,c]=false:=by with_unfolding_all rfl):PT X (.Compare a [op,pZ] [b,c] pos) (El (Aw r r' ta tb tc)):=by
 intro pins s σ H Q I h
 refine isTrue_chain (thn (ha pins s σ H _ I h) λv s1 ⟨x,H1,I1,r1,q1⟩=>test_link (thn (hb pins s1 σ H1 _ I1 q1) λu s2 ⟨y,H2,I2,r2,q2⟩=>
  thn (ho pins s2 σ H2 x y v u _ I2 r1 r2 q2) λd s3 ⟨z,H3,I3,r3,k,e,q3⟩=>?_)) hm
 subst e;subst r3;refine wpAny_truthy_bool ?_;cases k with
 |false=>
  rfl';obtain⟨k',e',q'⟩:=q3;cases e';ac_rfl;exact ite_ff ⟨H3,I3,q'⟩
 |true=>
  refine ite_tt (test_last (thn (hc pins s3 σ H3 _ I3 q3) λw' s4 ⟨z',H4,I4,r4,q4⟩=>thn (ia pins s4 σ H4 y z' u w' _ I4 r2 r4 q4) λd' s5 ⟨z2,H5,I5,r5,k2,e2,q5⟩=>?_));subst e2;subst r5;exact wpAny_truthy_bool ⟨H5,I5,q5⟩
def HC(K:PySem.W.Frag)(x:V)(H:Hp)(k:Bool):Prop:=
 match x with
 | .aZ=>k=false
 | .bl b=>k=b
 | .int i=>k=(i !=0)
 | .str y=>y.length<=sizeLine/\k=((y.length:Int) !=0)
 | .FI y=>y.size<=sizeLine/\k=((y.size:Int) !=0)
 | .ref p=>(∃xs,bX K H p xs/\k= !xs.isEmpty)\/(∃xs,eB K H p xs/\k= !xs.isEmpty)\/∃eL,H p=some (.dK eL)/\k= !eL.isEmpty
 |_=>False
theorem Br{κ:Type}{eL:List (κ×V)}{vs:List (κ×Value)}(r:KV eL vs):(!vs.isEmpty)= !eL.isEmpty:=by
 cases r<;>rfl
theorem tT{xs:List V}{its:List Value}(r:Vals xs its):(!its.toArray.isEmpty)= !xs.isEmpty:=by
 cases r<;>simp
theorem lF:(sizeLine:Nat)<2^63:=by rw[sizeLine_eq];decide
theorem Fw:Sm X (λx H Q=>∃k,HC X.K x H k/\Q k H):=by
 intro pins s σ H x v Q I rx h;obtain⟨k,e,q⟩:=h;have hl:=lF;have hs:sizeLine=16777216:=sizeLine_eq;cases x with
 |aZ=>
  cases rx;have e':k=false:=e;subst e';exact truthy_none ⟨H,I,q⟩
 |bl b=>
  cases rx;have e':k=b:=e;subst e';exact wpAny_truthy_bool ⟨H,I,q⟩
 |int i=>
  obtain⟨t,rfl⟩:=rx;have e':k=(i !=0):=e;subst e';exact PySem.P.truthy_int ⟨H,I,q⟩
 |str y=>
  obtain⟨t,rfl⟩:=rx;obtain⟨hy,e'⟩:y.length<=sizeLine/\k=((y.length:Int) !=0):=e;subst e';exact PySem.P.truthy_str (by omega) ⟨H,I.tok _,q⟩
 |FI y=>
  obtain⟨t,rfl⟩:=rx;obtain⟨hy,e'⟩:y.size<=sizeLine/\k=((y.size:Int) !=0):=e;subst e';exact PySem.W.truthy_bytes (by omega) ⟨H,I.tok _,q⟩
 |ref p=>
  subst rx;have e':(∃xs,bX X.K H p xs/\k= !xs.isEmpty)\/(∃xs,eB X.K H p xs/\k= !xs.isEmpty)\/∃eL,H p=some (.dK eL)/\k= !eL.isEmpty:=e
  rcases e' with ⟨xs,hx,e'⟩ | ⟨xs,hx,e'⟩ | ⟨eL,hx,e'⟩
  ·subst e'
   obtain⟨its,r,pl,hz⟩:=I.list hx;have hlen:=r.length;exact wpAny_truthy_list pl.isList (by simp only[fe];omega) ⟨H,I.tok _,by rw[tT r];exact q⟩
  ·subst e'
   obtain⟨its,r,pl,hz⟩:=I.tuple hx;have hlen:=r.length;exact truthy_tuple pl (by simp only[fe];omega) ⟨H,I.tok _,by rw[tT r];exact q⟩
  ·subst e'
   obtain⟨hz,hS,vs,r,m⟩:eL.length<=sizeLine/\(p==sysModules)=false/\∃vs,KV eL vs/\s.heap.DictOf (vU X.prog X.w) p vs:=I.hok p _ hx;have hlen:eL.length=vs.length:=Paired.length r;exact wpAny_truthy_dict hS m (by omega) ⟨H,I.tok _,by rw[Br r];exact q⟩
 |_=>exact(show False from e).elim
theorem G9(ha:PE X a ta)(he:∀whole,isTrue a X.env whole=(do let v <-whole;standAt a.pos;holding [v] (truthy v))):
  PT X a (λσ H Q=>ta σ H λx H'=>∃k,HC X.K x H' k/\Q k H'):=by
 intro pins s σ H Q I h;exact isTrue_plain (thn (ha pins s σ H _ I h) λv s1 ⟨x,H1,I1,r1,q1⟩=>Fw pins s1 σ H1 x v Q I1 r1 q1) (he _)
theorem vals1{x:V}{us:List Value}(r:Vals [x] us):∃u,us= [u]/\RelV x u:=by
 cases r with
 |cons r1 r2=>cases r2;exact⟨_,rfl,r1⟩
theorem vals2{x y:V}{us:List Value}(r:Vals [x,y] us):∃u w',us= [u,w']/\RelV x u/\RelV y w':=by
 cases r with
 |cons r1 r2=>
  cases r2 with
  |cons r3 r4=>cases r4;exact⟨_,_,rfl,r1,r3⟩
theorem CD(hc:X.calm=true):cU X (.builtin "max") (λxs H Q=>∃i j,xs= [.int i, .int j]/\Q (.int (if j>i then j else i)) H):=by
 intro pins s σ H xs us Q I r h;rfl';obtain⟨i,j,rfl,q⟩:=h;obtain⟨u,w',rfl,⟨t,rfl⟩,⟨t',rfl⟩⟩:=vals2 r;ac_rfl;refine max_two_ints (I.ok.hd hc) λh' tk k=>⟨_,H,I.kept k,?_,q⟩
 by_cases hj:j>i
 ·rw[if_pos hj,if_pos hj];exact⟨_,rfl⟩
 ·rw[if_neg hj,if_neg hj];exact⟨_,rfl⟩
end
structure u4 (h:Heap) (x dx C:Addr) (mA:Str->Option Value):Prop where
 obj:h.get? x=some (PySem.W.instObj C dx)
 ns:h.Ns1 dx mA
 ne:dx≠x
theorem DJ{h:Heap}{dx:Addr}{mA:Str->Option Value}(n:h.Ns1 dx mA):∃od,h.get? dx=some od/\∀name,PySem.W.lookIn name od=some (mA name):=by
 rfl';obtain⟨o,es,ep,ho,hd,hk,_,hm⟩:=n;ac_rfl;refine⟨o,ho,λname=>?_⟩;have e:=hm name;unfold nsFind findBy at e;rw[<-Array.find?_toList] at e;unfold PySem.W.lookIn;rw[hd];dsimp only
 split
 ·rename_i y q
  rw[q] at e;exact congrArg some e
 ·rename_i q
  rw[q] at e
  have a:es.toList.any (·.refKey)=false:=by
   rw[List.any_eq_false];intro y hy;obtain⟨z,t,VT⟩:=hk y (Array.mem_toList_iff.mp hy);simp[DictEntry.refKey,VT]
  have a':¬es.toList.any (·.refKey)=true:=by rw[a];exact cB
  rw[if_neg a'];exact congrArg some e
theorem u4.look{h:Heap}{x dx C:Addr}{mA:Str->Option Value}(I:u4 h x dx C mA):∃od,PySem.W.InstAt h x (PySem.W.instObj C dx) C (some od)/\∀name,PySem.W.lookIn name od=some (mA name):=
 let ⟨od,ho,hl⟩:=DJ I.ns
 ⟨od,⟨I.obj,rfl,rfl,ho⟩,hl⟩
section
variable {prog:Program} {w:World} {A:Around} {E:Value->Shared->Prop} {s:Shared} {K:PySem.W.Frag} {x dx C f:Addr} {mA:Str->Option Value} {name:Str} {v:Value}
theorem get_map{expr:Bool}{Q:Value->Shared->Prop}(X:K.In s.heap)(I:u4 s.heap x dx C mA)(hg:PySem.W.plainGet K C name=true)(hh:PySem.W.hasDictIn K C=true)
  (ha:PySem.W.findIn K (.ref C) name=some none) (hv:mA name=some v) (vH:PySem.W.handedIn v=true) (h:Q v {s with toks:=s.toks+1}):
  wpAny (model prog w) A (getAttr (.ref x) name expr) Q E s:=by
 obtain⟨od,J,hl⟩:=I.look;exact PySem.W.get_value X J (PySem.W.plainGet_of hg).1 (PySem.W.findObj_own hh ha rfl (by rw[hl,hv])) vH h
theorem F7{pl:Sem Bool}{Q:Value×List Value->Shared->Prop}(X:K.In s.heap)(I:u4 s.heap x dx C mA)(hg:PySem.W.plainGet K C name=true)
  (hf:PySem.W.findIn K (.ref C) name=some (some (.ref f))) (ht:PySem.W.isFn K (.ref f)=true) (hv:mA name=none) (h:Q (.ref f,[.ref x]) s):
  wpAny (model prog w) A (getMethod (.ref x) name pl) Q E s:=by
 obtain⟨od,J,hl⟩:=I.look;exact PySem.W.method_fn X J (PySem.W.plainGet_of hg).1 (PySem.W.plainGet_of hg).2 hf (beq_iff_eq.mp ht) (by show(PySem.W.lookIn name od).map (·.isSome)=some false;rw[hl,hv];rfl) h
theorem Kq{ns:List Str}{Q:Unit->Shared->Prop}(X:K.In s.heap)(I:u4 s.heap x dx C mA)
  (hs:PySem.W.findIn K (.ref C) "__setattr__"=some (some (.builtin "object.__setattr__"))) (hp:PySem.W.plainOver K C=true) (ht:PySem.W.takerIn K C name=some none) (hh:PySem.W.hasDictIn K C=true)
  (hw:PySem.Within mA ns) (zX:ns.length<=sizeLine)
  (h:∀h',u4 h' x dx C (λy=>if y=name then some v else mA y)->Heap.SameBut dx s.heap h'->Q () {s with heap:=h',toks:=s.toks+2}):
  wpAny (model prog w) A (setAttr (.ref x) name v) Q E s:=by
 rfl';obtain⟨od,J,hl⟩:=I.look;obtain⟨cd,hc,jf⟩:=PySem.W.any_some hh;ac_rfl;refine PySem.W.set_plain X J hs (PySem.W.osa_open (s:={s with toks:=s.toks+1}) (r:=none) X J hp ht λb=>?_)
 have hx:s.heap.get? x=some ⟨.ref C,some dx, .plain, #[]⟩:=I.obj;refine wpAny_bind (wpAny_pure (wpAny_bind (wpAny_bind (wpAny_loadPart hx (wpAny_bind (PySem.W.Looks.here (s:={s with toks:=s.toks+1}) (PySem.W.looks_clsIn X hc) ?_))))))
 rw[jf];refine wpAny_pure (a:=some dx) (wpAny_bind (wpAny_pure (wpAny_bind ?_)));refine wpAny_nsSet1 (s:={s with toks:=s.toks+1}) I.ns λh' LU gT=>?_
 rfl';obtain⟨oD,esD,epD,hoD,hdD,hcD⟩:=LU.count (PySem.Within.cons name v hw);ac_rfl;refine wpAny_bind (wpAny_lookBehind hoD (by rw[hdD];exact pastItsLine_dict (mG hcD (by rw[dD];omega))) ?_)
 exact wpAny_pure (h _ ⟨(gT.2 _ (Ne.symm I.ne)).trans I.obj,LU,I.ne⟩ gT)
theorem GD{R:Result->Shared->Prop}{vs:List Value}{kw:List (Str×Value)}(X:K.In s.heap)(hm:PySem.W.makesIn K C=true)
  (hi:PySem.W.findIn K (.ref C) "__init__"=some (some (.ref f))) (hf:PySem.W.typeIn K (.ref f)=some (.type "function"))
  (h:codeAny (model prog w) (A.under (.builtin "type.__call__" ⟨.ref C::vs,kw⟩)) (.call (.ref f) ⟨.ref (s.heap.objs.size+1)::vs,kw⟩) (PySem.W.InitBack (s.heap.objs.size+1) R)
   {s with heap:=(s.heap.push PySem.W.emptyDict).push (PySem.W.instObj C s.heap.objs.size)}):
  codeAny (model prog w) A (.call (.ref C) ⟨vs,kw⟩) R s:=by
 obtain⟨hh,g,d,t,os⟩:=s;exact PySem.W.make_core (PySem.W.makes_of X hm) (PySem.W.looks_findIn X hi) (λself=>PySem.W.bind_fn X self hf) (.inl rfl) h
end
def iF(f:Str)(v:V):List (Str×V)->List (Str×V)
 | []=> [(f,v)]
 | (g,x)::r=>if g=f then(g,v)::r else(g,x)::iF f v r
theorem qS(f g:Str)(v:V):∀fs:List (Str×V),(iF f v fs).lookup g=if g=f then some v else fs.lookup g
 | []=>by
  show List.lookup g [(f,v)]=_
  by_cases h:g=f
  ·have hb:(g==f)=true:=beq_iff_eq.mpr h
   simp only[List.lookup,hb,if_pos h]
  ·have hb:(g==f)=false:=beq_eq_false_iff_ne.mpr h
   simp only[List.lookup,hb,if_neg h]
 | (k,x)::r=>by
  have ih:=qS f g v r;rw[show iF f v ((k,x)::r)=(if k=f then(k,v)::r else(k,x)::iF f v r) from rfl]
  by_cases hk:k=f
  ·rw[if_pos hk]
   by_cases h:g=k
   ·have hb:(g==k)=true:=beq_iff_eq.mpr h
    simp only[List.lookup,hb,if_pos (h.trans hk)]
   ·have hb:(g==k)=false:=beq_eq_false_iff_ne.mpr h
    simp only[List.lookup,hb,if_neg (λe:g=f=>h (e.trans hk.symm))]
  ·rw[if_neg hk]
   by_cases h:g=k
   ·have hb:(g==k)=true:=beq_iff_eq.mpr h
    simp only[List.lookup,hb,if_neg (λe:g=f=>hk (h.symm.trans e))]
   ·have hb:(g==k)=false:=beq_eq_false_iff_ne.mpr h
    simp only[List.lookup,hb];exact ih
theorem pR(f:Str)(v:V):∀fs:List (Str×V),f∈(iF f v fs).map (·.1)/\∀g,g∈fs.map (·.1)->g∈(iF f v fs).map (·.1)
 | []=>⟨by simp[iF],λg h=>by simp at h⟩
 | (k,x)::r=>by
  obtain⟨i1,i2⟩:=pR f v r;rw[show iF f v ((k,x)::r)=(if k=f then(k,v)::r else(k,x)::iF f v r) from rfl]
  by_cases hk:k=f
  ·rw[if_pos hk]
   subst hk;exact⟨by simp,λg h=>h⟩
  ·rw[if_neg hk]
   refine⟨?_,λg h=>?_⟩
   ·rw[j0]
    exact b8 _ i1
   ·rw[j0] at h ⊢
    rcases cD.mp h with e|e
    ·exact cD.mpr (.inl e)
    ·exact b8 _ (i2 g e)
theorem qP(f:Str)(v:V):∀fs:List (Str×V),(iF f v fs).length<=fs.length+1
 | []=>by simp[iF]
 | (k,x)::r=>by
  have ih:=qP f v r;rw[show iF f v ((k,x)::r)=(if k=f then(k,v)::r else(k,x)::iF f v r) from rfl]
  by_cases hk:k=f
  ·rw[if_pos hk,dD,dD];omega
  ·rw[if_neg hk,dD,dD];omega
theorem mN.some_of{v:V}{o:Option Value}(r:mN (some v) o):∃u,o=some u/\RelV v u:=by
 cases o with
 |none=>exact(show False from r).elim
 |some u=>exact⟨u,rfl,r⟩
theorem mN.none_of{o:Option Value}(r:mN none o):o=none:=by
 cases o with
 |none=>rfl
 |some u=>exact(show False from r).elim
theorem C1{v:V}{u:Value}(r:RelV v u):PySem.W.handedIn u=true:=by
 cases v with
 |aZ=>cases(show u=Value.none from r);rfl
 |bl b=>cases(show u=Value.bool b from r);rfl
 |int i=>obtain⟨t,e⟩:=(show ∃t,u=Value.int i t from r);cases e;rfl
 |str x=>obtain⟨t,e⟩:=(show ∃t,u=Value.str x t from r);cases e;rfl
 |FI b=>obtain⟨t,e⟩:=(show ∃t,u=Value.bytes b t from r);cases e;rfl
 |CW b=>obtain⟨t,e⟩:=(show ∃t,u=Value.float b t from r);cases e;rfl
 |ref a=>cases(show u=Value.ref a from r);rfl
 |ty n=>cases(show u=Value.type n from r);rfl
section
variable {P:Program} {w:World} {H H':Hp} {h h':Heap} {a C dx:Addr} {fs Qp:List (Str×V)}
theorem qL(hok:iN P w H h)(e:H a=some (.ins C dx fs)):∃mA,u4 h a dx C mA/\(∀f,mN (fs.lookup f) (mA f))/\PySem.Within mA (fs.map (·.1))/\fs.length<=1000/\H dx=some (.own a):=by
 obtain⟨d,z,ne,ob,mA,n,r,q⟩:=(show cO P w H h a (.ins C dx fs) from hok a _ e);exact⟨mA,⟨ob,n,ne⟩,r,q,z,d⟩
end
structure uW (K:PySem.W.Frag) (C:Addr):Prop where
 pg:PySem.W.plainGet K C Str.empty=true
 hd:PySem.W.hasDictIn K C=true
 po:PySem.W.plainOver K C=true
 sa:PySem.W.findIn K (.ref C) "__setattr__"=some (some (.builtin "object.__setattr__"))
theorem uW.get{K:PySem.W.Frag}{C:Addr}(c:uW K C)(f:Str):PySem.W.plainGet K C f=true:=c.pg
def lh(K:PySem.W.Frag)(C:Addr)(f:Str):Prop:=PySem.W.findIn K (.ref C) f=some none
theorem lh.RX{K:PySem.W.Frag}{C:Addr}{f:Str}(n:lh K C f):PySem.W.takerIn K C f=some none:=by
 unfold PySem.W.takerIn;rw[show PySem.W.findIn K (.ref C) f=some none from n];rfl
structure Meth (K:PySem.W.Frag) (C:Addr) (m:Str) (f:Addr):Prop where
 at_:PySem.W.findIn K (.ref C) m=some (some (.ref f))
 fn:PySem.W.isFn K (.ref f)=true
 kp:PySem.W.keepIn K (.ref f)=true
section
variable {X:Cx} {pins:List (Addr×Obj)} {σ:St} {H:Hp} {s:Shared} {a C dx:Addr} {fs:List (Str×V)} {f:Str} {v:V} {A:Around} {E:Value->Shared->Prop}
theorem Bf{b:Bool}{Q:Value->Shared->Prop}(I:Inv X pins σ H s)(e:H a=some (.ins C dx fs))(c:uW X.K C)(n:lh X.K C f)(l:fs.lookup f=some v)
  (h:∀u s',Inv X pins σ H s'->RelV v u->Q u s'):wpAny (model X.prog X.w) A (getAttr (.ref a) f b) Q E s:=by
 obtain⟨mA,O,r,_,_,_⟩:=qL I.hok e;obtain⟨u,hu,ru⟩:=mN.some_of (v:=v) (o:=mA f) (by rw[<-l];exact r f)
 exact get_map I.il O (c.get f) c.hd n hu (C1 ru) (h u _ (I.tok _) ru)
theorem tS{m:Str}{g:Addr}{pl:Sem Bool}{Q:Value×List Value->Shared->Prop}(I:Inv X pins σ H s)(e:H a=some (.ins C dx fs))(c:uW X.K C)(k:Meth X.K C m g)(l:fs.lookup m=none)
  (h:Q (.ref g,[.ref a]) s):wpAny (model X.prog X.w) A (getMethod (.ref a) m pl) Q E s:=by
 obtain⟨mA,O,r,_,_,_⟩:=qL I.hok e;have hn:mA m=none:=mN.none_of (by rw[<-l];exact r m)
 exact F7 I.il O (c.get m) k.at_ k.fn hn h
theorem BX{y:V}{u:Value}{Q:Unit->Shared->Prop}(I:Inv X pins σ H s)(e:H a=some (.ins C dx fs))(c:uW X.K C)(n:lh X.K C f)(hl:fs.length<1000)(ry:RelV y u)
  (h:∀s',Inv X pins σ (upd H a (.ins C dx (iF f y fs))) s'->Q () s'):wpAny (model X.prog X.w) A (setAttr (.ref a) f u) Q E s:=by
 rfl';obtain⟨mA,O,r,wi,_,ho⟩:=qL I.hok e;have hz:(fs.map (·.1)).length<=sizeLine:=by rw[aI,sizeLine_eq];omega
 ac_rfl;refine Kq I.il O c.sa c.po n.RX c.hd wi hz λh' O' sb=>h _ ?_;have hd:∃o,h'.get? dx=some o:=let ⟨o,_,_,e',_⟩:=O'.ns;⟨o,e'⟩;refine I.write (x:=a) (e:=dx) (by rw[e];exact True.intro) (.inr ho) (λb q hb z=>(sb.2 b hb).trans z) hd ?_
 refine⟨by rw[aw O.ne];exact ho,?_,O.ne,O'.obj,_,O'.ns,λg=>?_,λg hg=>?_⟩
 ·have:=qP f y fs;omega
 ·show mN ((iF f y fs).lookup g) (if g=f then some u else mA g)
  rw[qS]
  by_cases q:g=f
  ·rw[if_pos q,if_pos q];exact ry
  ·rw[if_neg q,if_neg q];exact r g
 ·by_cases q:g=f
  ·rw[q];exact(pR f y fs).1
  ·refine(pR f y fs).2 g (wi g λz=>hg ?_)
   show(if g=f then some u else mA g)=none;rw[if_neg q];exact z
theorem Inv.made(I:Inv X pins σ H s):Inv X pins σ (upd (upd H s.heap.objs.size (.own (s.heap.objs.size+1))) (s.heap.objs.size+1) (.ins C s.heap.objs.size []))
  {s with heap:=(s.heap.push PySem.W.emptyDict).push (PySem.W.instObj C s.heap.objs.size)}:=by
 have e1:(s.heap.push PySem.W.emptyDict).get? s.heap.objs.size=some PySem.W.emptyDict:=Heap.get?_push_size s.heap rfl
 have e2:((s.heap.push PySem.W.emptyDict).push (PySem.W.instObj C s.heap.objs.size)).get? (s.heap.objs.size+1)=some (PySem.W.instObj C s.heap.objs.size):=by
  have:=Heap.get?_push_size (s.heap.push PySem.W.emptyDict) (o:=PySem.W.instObj C s.heap.objs.size) rfl
  rwa [Heap.size_push] at this
 have e3:(s.heap.push PySem.W.emptyDict).Ns s.heap.objs.size (λ_=>none):=⟨PySem.W.emptyDict, #[],_,e1,rfl,(λe he=>absurd he (by simp)),λ_=>rfl⟩
 have I1:=I.laid (a:=s.heap.objs.size) (o:= .own (s.heap.objs.size+1)) (h':=s.heap.push PySem.W.emptyDict) (t':=s.toks) (λb u q=>Heap.get?_push_of_some _ q) (br _) ⟨_,e1⟩;refine I1.laid (a:=s.heap.objs.size+1) (o:= .ins C s.heap.objs.size []) (t':=s.toks) (λb u q=>Heap.get?_push_of_some _ q) (Nat.le_of_eq (Heap.size_push _ _)) ?_;have ne:s.heap.objs.size≠s.heap.objs.size+1:=cH (Cv _);refine⟨by rw[aw ne,au],cI _,ne,e2,λ_=>none,(Heap.Ns1.of_empty e3).at λo q=>Heap.get?_push_of_some _ q,λ_=>True.intro,λy hy=>absurd rfl hy⟩
theorem HI{prog:Program}{w:World}{env:Env}{e:Expr}{f:Str}{pos:Pos}{s:Shared}{Q:Value->Shared->Prop}(hb:attributeBase e f env (eval e env)=eval e env)
  (h:wpAny (model prog w) A (eval e env) (λo s₁=>wpAny (model prog w) A (getAttr o f true) Q E s₁) E s):wpAny (model prog w) A (eval (.Attribute e f pos) env) Q E s:=
 Attribute_any_ h (by rw[arm_eval_Attribute,hb])
end
def Z8(K:PySem.W.Frag)(ta:TE)(f:Str):TE:=λσ H Q=>ta σ H λx H1=>∃a C dx fs v,x= .ref a/\H1 a=some (.ins C dx fs)/\uW K C/\lh K C f/\fs.lookup f=some v/\Q v H1
def Zn(K:PySem.W.Frag)(ta tv:TE)(f:Str):TS:=λD σ H=>tv σ H λy H1=>ta σ H1 λx H2=>∃a C dx fs,x= .ref a/\H2 a=some (.ins C dx fs)/\uW K C/\lh K C f/\fs.length<1000/\
 D.nx σ (upd H2 a (.ins C dx (iF f y fs)))
section
variable {X:Cx} {o e value:Expr} {f:Str} {pos pos' aai:Pos} {ta tv:TE}
theorem MG(he:PE X e ta)(hb:attributeBase e f X.env (eval e X.env)=eval e X.env):PE X (.Attribute e f pos) (Z8 X.K ta f):=by
 intro pins s σ H Q I h;refine HI hb (thn (he pins s σ H _ I h) λu s1 bz=>?_);rfl';obtain⟨x,H1,I1,rx,a,C,dx,fs,v,ex,ea,c,n,l,q⟩:=bz;ac_rfl;subst ex;obtain rfl:u=Value.ref a:=rx;exact Bf I1 ea c n l λu' s2 I2 ru=>⟨v,H1,I2,ru,q⟩
theorem MR(ha:PE X o ta)(hv:PE X value tv)(hs:swapsWith value (some (.Attribute o f pos')) pos.line X.env=pure false):PS X (.Assign [.Attribute o f pos'] value pos) (Zn X.K ta tv f):=by
 intro pins s σ H D I h;refine plainObj_wpAny_Assign_Attribute (thn (hv pins s σ H _ I h) λu s1 ⟨y,H1,I1,ry,q⟩=>thn (ha pins s1 σ H1 _ I1 q) λov s2 ⟨x,H2,I2,rx,a,C,dx,fs,ex,ea,c,n,l,q2⟩=>?_) hs;subst ex;obtain rfl:ov=Value.ref a:=rx;exact BX I2 ea c n l ry λs3 I3=>⟨σ,_,I3,q2⟩
end
section
variable {X:Cx} {pins:List (Addr×Obj)} {σ:St} {H:Hp} {s:Shared} {A:Around} {E:Value->Shared->Prop} {Q:Value->Shared->Prop} {c:Value} {b:Bool}
inductive jF (K:PySem.W.Frag) (H:Hp):V->Value->Prop where
 |aZ:jF K H .aZ (.type "NoneType")
 |bl (x:Bool):jF K H (.bl x) (.type "bool")
 |int (i:Int):jF K H (.int i) (.type "int")
 |str (x:Str):jF K H (.str x) (.type "str")
 |CW (x:UInt64):jF K H (.CW x) (.type "float")
 |lst {a:Addr} {xs:List V} (e:H a=some (.lst xs)):jF K H (.ref a) (.type "list")
 |pL {a:Addr} {o:Obj} {xs:List V} (e:H a=some (.pL o (.lst xs))):jF K H (.ref a) (.type "list")
 |tup {a:Addr} {xs:List V} (e:H a=some (.tup xs)):jF K H (.ref a) (.type "tuple")
 |dK {a:Addr} {eL:List (Key×V)} (e:H a=some (.dK eL)):jF K H (.ref a) (.type "dict")
 |dT {a:Addr} {eL:List (List Key×V)} (e:H a=some (.dT eL)):jF K H (.ref a) (.type "dict")
 |ins {a C dx:Addr} {fs:List (Str×V)} (e:H a=some (.ins C dx fs)) (cl:uW K C) (ha:PySem.W.findIn K (.ref C) "__class__"=some (some (.builtin "object.__class__")))
   (hn:PySem.W.specialIn K (.builtin "object.__class__") "__get__"=some (some (.builtin "getset_descriptor.__get__"))) (V9:PySem.W.takesIn K (.builtin "object.__class__")=some true)
   (hm:PySem.W.mroIn K C (.type "object")=some true):jF K H (.ref a) (.ref C)
theorem Dr{x:V}{u t:Value}(I:Inv X pins σ H s)(rx:RelV x u)(ty:jF X.K H x t)(e:PySem.W.kitOne X.K t c=some b)(h:∀tk,Q (.bool b) {s with toks:=tk}):
  wpAny (model X.prog X.w) A (call (.builtin "isinstance") [u,c]) Q E s:=by
 cases ty with
 |aZ=>cases(show u=Value.none from rx);exact PySem.W.kia_one PySem.W.kitx_none I.il True.intro e (λz=>nomatch z) h
 |bl y=>cases(show u=Value.bool y from rx);exact PySem.W.kia_one PySem.W.kitx_bool I.il True.intro e (λz=>nomatch z) h
 |int i=>obtain⟨t,q⟩:=(show ∃t,u=Value.int i t from rx);cases q;exact PySem.W.kia_one PySem.W.kitx_int I.il True.intro e (λz=>nomatch z) h
 |str y=>obtain⟨t,q⟩:=(show ∃t,u=Value.str y t from rx);cases q;exact PySem.W.kia_one PySem.W.kitx_str I.il True.intro e (λz=>nomatch z) h
 |CW y=>obtain⟨t,q⟩:=(show ∃t,u=Value.float y t from rx);cases q;exact PySem.W.kia_one PySem.W.kitx_float I.il True.intro e (λz=>nomatch z) h
 | @lst a xs ea=>
  cases(show u=Value.ref a from rx);obtain⟨_,_,n,_,h1⟩:=(show cO X.prog X.w H s.heap a (.lst xs) from I.hok a _ ea);exact PySem.W.kia_one PySem.W.kitx_list I.il ⟨_,h1,rfl⟩ e (λz=>nomatch z) h
 | @pL a ob xs ea=>
  cases(show u=Value.ref a from rx);obtain⟨_,_,_,n,_,h1⟩:=(show cO X.prog X.w H s.heap a (.pL ob (.lst xs)) from I.hok a _ ea);exact PySem.W.kia_one PySem.W.kitx_list I.il ⟨_,h1,rfl⟩ e (λz=>nomatch z) h
 | @tup a xs ea=>
  cases(show u=Value.ref a from rx);obtain⟨_,_,_,p⟩:=(show cO X.prog X.w H s.heap a (.tup xs) from I.hok a _ ea);obtain⟨o,h1,h2,_⟩:=p;exact PySem.W.kia_one PySem.W.kitx_tuple I.il ⟨o,h1,h2⟩ e (λz=>nomatch z) h
 | @dK a eL ea=>
  cases(show u=Value.ref a from rx);obtain⟨_,_,vs,_,p⟩:=(show cO X.prog X.w H s.heap a (.dK eL) from I.hok a _ ea);obtain⟨o,es,ep,h1,h2,_⟩:=p;exact PySem.W.kia_one PySem.W.kitx_dict I.il ⟨o,h1,h2.1⟩ e (λz=>nomatch z) h
 | @dT a eL ea=>
  cases(show u=Value.ref a from rx);obtain⟨_,_,xs,_,o,es,ep,h1,h2,_⟩:=(show cO X.prog X.w H s.heap a (.dT eL) from I.hok a _ ea);exact PySem.W.kia_one PySem.W.kitx_dict I.il ⟨o,h1,h2.1⟩ e (λz=>nomatch z) h
 | @ins a C dx fs ea cl ha hn V9 hm=>
  rfl';cases(show u=Value.ref a from rx);obtain⟨mA,O,_⟩:=qL I.hok ea;obtain⟨od,J,_⟩:=O.look;ac_rfl;exact PySem.W.kia_one (PySem.W.kitx_own (cl.get _) cl.hd ha hn V9 hm) I.il J e (λz=>nomatch z) h
end
structure cn (k:Nat) (A:Around):Prop where
 hd:A.handled=none
 dp:A.depth+3*k+5<recursionLimit
 un:A.units+16*k+200<cLine
theorem cn.mono{j k:Nat}{A:Around}(r:cn k A)(h:j<=k):cn j A:=⟨r.hd,by have:=r.dp;omega,by have:=r.un;omega⟩
theorem cn.deeper{k:Nat}{A:Around}(r:cn (k+1) A)(env:Env):cn k (A.deeper env):=
 ⟨r.hd,by have:=r.dp;show A.depth+1+3*k+5<_;omega,by have:=r.un;show A.units+3+16*k+200<_;omega⟩
theorem BA{A:Around}{C:Addr}{us:List Value}{kw:List (Str×Value)}:(A.under (.builtin "type.__call__" ⟨.ref C::us,kw⟩)).depth=A.depth+1:=by
 first|rfl|simp[Around.under,Code.weight,Code.isCreation,Code.isGuard,Code.isCaller,Code.frames,Code.isFrame,guardIds]
theorem BB{A:Around}{C:Addr}{us:List Value}{kw:List (Str×Value)}:(A.under (.builtin "type.__call__" ⟨.ref C::us,kw⟩)).units=A.units+1:=by
 first|rfl|simp[Around.under,Code.cUnits,Code.frames,Code.isFrame]
theorem cn.make{k:Nat}{A:Around}(r:cn (k+1) A)(C:Addr)(us:List Value)(kw:List (Str×Value)):cn k (A.under (.builtin "type.__call__" ⟨.ref C::us,kw⟩)):=
 ⟨r.hd,by have:=r.dp;rw[BA];omega,by have:=r.un;rw[BB];omega⟩
theorem cn.depth{k:Nat}{A:Around}(r:cn k A):A.depth<recursionLimit:=by have:=r.dp;omega
theorem cn.units{k:Nat}{A:Around}(r:cn k A):A.units+64<cLine:=by have:=r.un;omega
def OV:TA:=λ_ H Q=>Q [] H
def RQ(ta:TE)(tr:TA):TA:=λσ H Q=>ta σ H λx H1=>tr σ H1 λxs H2=>Q (x::xs) H2
section
variable {X:Cx} {e:Expr} {es:List Expr} {te:TE} {t:TA} {pos:Pos}
theorem dO:PA X [] OV:=λ_ _ _ _ H Q I h=>Calls.spliced_nil ⟨[],H,I, .nil,h⟩
theorem bV(ha:PE X e te)(hr:PA X es t)(hs:starEach (e::es) X.env=(false,eval e X.env)::starEach es X.env:=by rfl):PA X (e::es) (RQ te t):=by
 intro pos pins s σ H Q I h;rw[hs];show wpAny _ _ (spliced ((false,eval e X.env)::backTo pos (starEach es X.env))) _ _ s;refine Calls.spliced_cons (thn (ha pins s σ H _ I h) λu s1 bz=>?_);rfl';obtain⟨x,H1,I1,r1,q1⟩:=bz;ac_rfl;exact thn (hr pos pins s1 σ H1 _ I1 q1) λus s2 ⟨xs,H2,I2,r2,q2⟩=>⟨x::xs,H2,I2, .cons r1 r2,q2⟩
def aag(t:TA):TE:=λσ H Q=>t σ H λxs H1=>xs.length<=sizeLine/\∀p,H1 p=none->Q (.ref p) (upd H1 p (.tup xs))
def aab(t:TA):TE:=λσ H Q=>t σ H λxs H1=>xs.length<=sizeLine/\∀p,H1 p=none->Q (.ref p) (upd H1 p (.lst xs))
theorem MN{x1}(h:PA X es t):PE X (.Tuple es x1 pos) (aag t):=by
 intro pins s σ H Q I hq;refine wpAny_Tuple_spliced (thn (h pos pins s σ H _ I hq) λus s1 ⟨xs,H1,I1,r,z,q⟩=>⟨r.length▸z,?_⟩);have hf:H1 s1.heap.objs.size=none:=I1.hok.fresh (br _);refine⟨.ref s1.heap.objs.size,upd H1 s1.heap.objs.size (.tup xs),I1.laid (t':=s1.toks) (λb u e=>Heap.get?_push_of_some _ e) (br _) ?_,rfl,q _ hf⟩;exact⟨z,us,r,⟨_,Heap.get?_push_size _ rfl,rfl,_,rfl⟩⟩
theorem lJ(h:PA X es t):PE X (.List es pos) (aab t):=by
 intro pins s σ H Q I hq;refine wpAny_List_spliced (thn (h pos pins s σ H _ I hq) λus s1 ⟨xs,H1,I1,r,z,q⟩=>⟨r.length▸z,?_⟩);have hf:H1 s1.heap.objs.size=none:=I1.hok.fresh (br _);refine⟨.ref s1.heap.objs.size,upd H1 s1.heap.objs.size (.lst xs),I1.laid (t':=s1.toks) (λb u e=>Heap.get?_push_of_some _ e) (br _) ?_,rfl,q _ hf⟩;exact⟨z,us,0,r,Heap.get?_push_size _ rfl⟩
end
abbrev Sp:=List V->Hp->VK->XK->Prop
abbrev so:=List Env->Hp->Shared->XK->Value->Shared->Prop
structure Env0 (P:Program) (w:World) (K:PySem.W.Frag) (mg:Str->Option Value) (base:Heap) (A:Around) (outer:List Env) (s:Shared) (H:Hp):Prop where
 frames:A.frames=some outer
 mod:Mod K mg base
 bs:∀b o,base.get? b=some o->s.heap.get? b=some o/\H b=none
 bsz:base.objs.size<=s.heap.objs.size
 funs:s.heap.FunFrames base outer
 frf:∀b∈vD outer,H b=none
 hok:iN P w H s.heap
 bare:AllBare s.gens
def CE(outer:List Env)(P:Program)(w:World)(H:Hp)(s:Shared)(Q:VK)(u:Value)(s':Shared):Prop:=
 ∃v H',s'.os=s.os/\AllBare s'.gens/\Un (vD outer) [] H H' s.heap s'.heap/\iN P w H' s'.heap/\RelV v u/\Q v H'
def CR(CX:so)(outer:List Env)(P:Program)(w:World)(H:Hp)(s:Shared)(Q:VK)(E:XK)(r:Result)(s':Shared):Prop:=
 match r with
 | .ok (.ret u)=>CE outer P w H s Q u s'
 | .ok _=>False
 | .error e=>CX outer H s E e s'
structure FnOk (P:Program) (w:World) (K:PySem.W.Frag) (mg:Str->Option Value) (base:Heap) (CX:so) (k:Nat) (f:Addr) (fd:FuncData) (ps:List Str) (sp:Sp):Prop where
 len:∀vs H Q E,sp vs H Q E->vs.length=ps.length
 run:∀(A:Around)(outer:List Env)(s:Shared)(H:Hp)(args:Args)(us:List Value)(vs:List V)(Q:VK)(E:XK),cn k A->Env0 P w K mg base A outer s H->BindsTo s fd args (ps.zip us)->Vals vs us->sp vs H Q E->
  codeAny (model P w) A (.call (.ref f) args) (CR CX outer P w H s Q E) s
theorem FnOk.mono{P:Program}{w:World}{K:PySem.W.Frag}{mg:Str->Option Value}{base:Heap}{CX:so}{j k:Nat}{f:Addr}{fd:FuncData}{ps:List Str}{sp:Sp}(F:FnOk P w K mg base CX j f fd ps sp)(h:j<=k):
  FnOk P w K mg base CX k f fd ps sp:=⟨F.len,λA outer s H args us vs Q E hr=>F.run A outer s H args us vs Q E (hr.mono h)⟩
theorem FnOk.imp{P:Program}{w:World}{K:PySem.W.Frag}{mg:Str->Option Value}{base:Heap}{CX:so}{k:Nat}{f:Addr}{fd:FuncData}{ps:List Str}{sp ZX:Sp}(F:FnOk P w K mg base CX k f fd ps sp)
  (h:∀vs H Q E,ZX vs H Q E->sp vs H Q E):FnOk P w K mg base CX k f fd ps ZX:=
 ⟨λvs H Q E q=>F.len vs H Q E (h _ _ _ _ q),λA outer s H args us vs Q E hr he hb hv hs=>F.run A outer s H args us vs Q E hr he hb hv (h _ _ _ _ hs)⟩
theorem Env0.make{P:Program}{w:World}{K:PySem.W.Frag}{mg:Str->Option Value}{base:Heap}{A:Around}{outer:List Env}{s:Shared}{H:Hp}(e:Env0 P w K mg base A outer s H)(C:Addr)(us:List Value)(kw:List (Str×Value)):
  Env0 P w K mg base (A.under (.builtin "type.__call__" ⟨.ref C::us,kw⟩)) outer s H:=⟨by first|exact e.frames| (simpa [Around.under,Code.envs,Code.isFrame,pushEnvs] using e.frames),e.mod,e.bs,e.bsz,e.funs,e.frf,e.hok,e.bare⟩
section
variable {X:Cx} {pins:List (Addr×Obj)} {σ:St} {H:Hp} {s s':Shared}
theorem Inv.Oz(I:Inv X pins σ H s):Env0 X.prog X.w X.K X.mg X.base X.A X.stack s H:=
 ⟨I.ok.frames,I.ok.mod,I.bs,mG I.ok.bsz I.sz,I.stack,I.Cb,I.hok,I.bare⟩
theorem Inv.after{Q:VK}{u:Value}(I:Inv X pins σ H s)(h:CE X.stack X.prog X.w H s Q u s'):EP X pins σ Q u s':=by
 obtain⟨v,H',os,bare,un,hok,r,q⟩:=h;obtain⟨hh,g,d,t,os'⟩:=s';obtain rfl:os'=s.os:=os;exact⟨v,H',I.call (h':=hh) (g':=g) (d':=d) (t':=t) (ch:= []) un hok bare (λb z=>absurd z (by simp)),r,q⟩
end
def RP(sp:Sp)(bu:List V)(E:XK)(t:TA):TE:=λσ H Q=>t σ H λvs H1=>sp (vs++bu) H1 Q E
def Ek(C:Addr)(m:Str)(sp:Sp)(bu:List V)(E:XK)(ta:TE)(t:TA):TE:=λσ H Q=>ta σ H λx H1=>∃a dx fs,x= .ref a/\H1 a=some (.ins C dx fs)/\fs.lookup m=none/\
 t σ H1 λvs H2=>sp (x::(vs++bu)) H2 Q E
def RT(C:Addr)(sp:Sp)(bu:List V)(E:XK)(t:TA):TE:=λσ H Q=>t σ H λvs H1=>∀x dx,H1 x=none->H1 dx=none->dx≠x->
 sp (.ref x::(vs++bu)) (upd (upd H1 dx (.own x)) x (.ins C dx [])) (λv H2=>v= .aZ/\Q (.ref x) H2) E
def Binds(K:PySem.W.Frag)(fd:FuncData)(ps:List Str)(ds:List Value):Prop:=
 ∀(s:Shared)(us:List Value),K.In s.heap->(us++ds).length=ps.length->BindsTo s fd ⟨us,[]⟩ (ps.zip (us++ds))
theorem Binds.all{K:PySem.W.Frag}{fd:FuncData}{ps:List Str}(h:∀us:List Value,us.length=ps.length->bindArgs fd ⟨us,[]⟩=pure (ps.zip us)):Binds K fd ps []:=λs us _ hl=>by
 rw[pD] at hl ⊢;exact .of_eq (h us hl)
def Passes(CX:so)(X:Cx)(E:XK):Prop:=∀(pins:List (Addr×Obj))(σ:St)(H:Hp)(s:Shared)(e:Value)(s':Shared),Inv X pins σ H s->CX X.stack H s E e s'->X.xe e s'
section
variable {X:Cx} {CX:so} {k:Nat} {f C:Addr} {fd:FuncData} {ps:List Str} {sp:Sp} {bu:List V} {ds:List Value} {E:XK} {x m:Str} {p pos apos:Pos} {e o:Expr} {es:List Expr} {ta:TE} {t:TA}
theorem Ap{pins:List (Addr×Obj)}{σ:St}{H:Hp}{s:Shared}{Q:VK}{us:List Value}{vs:List V}(F:FnOk X.prog X.w X.K X.mg X.base CX k f fd ps sp)(hr:cn k X.A)(hb:Binds X.K fd ps ds)(hd:Vals bu ds)(hx:Passes CX X E)
  (I:Inv X pins σ H s) (r:Vals vs us) (h:sp (vs++bu) H Q E):wpAny (model X.prog X.w) X.A (call (.ref f) us) (EP X pins σ Q) X.xe s:=by
 have r2:Vals (vs++bu) (us++ds):=r.append hd;have hl:(us++ds).length=ps.length:=by rw[<-r2.length];exact F.len _ _ _ _ h
 refine wpAny_call (codeAny_mono (F.run X.A X.stack s H ⟨us,[]⟩ (us++ds) (vs++bu) Q E hr I.Oz (hb s us I.il hl) r2 h) λr s' hq=>?_);cases r with
 |error e=>exact hx pins σ H s e s' I hq
 |ok fl=>
  cases fl with
  |ret u=>exact I.after hq
  |next=>exact False.elim hq
  |brk=>exact False.elim hq
  |cont=>exact False.elim hq
theorem rm(F:FnOk X.prog X.w X.K X.mg X.base CX k f fd ps sp)(hr:cn k X.A)(hg:Gl X x)(hm:X.mg x=some (.ref f))(hk:PySem.W.keepIn X.K (.ref f)=true)(hb:Binds X.K fd ps ds)(hd:Vals bu ds)(hx:Passes CX X E)
  (ha:PA X (e::es) t) (ik:(x==("__debug__":Str))=false:=by decide) (he:starEach (e::es) X.env=(false,eval e X.env)::starEach es X.env:=by rfl) (eF:(backTo pos (starEach es X.env)).any (·.1)=false:=by rfl):
  PE X (.Call (.Name x p) (e::es) [] pos) (RP sp bu E t):=by
 intro pins s σ H Q I h;refine wpAny_Call_Name_kw (vN I hg hm ?_ ik);refine PySem.W.callWith_K (h₀:=X.base) I.ok.mod.kin hk (thn (ha pos pins s σ H _ I h) λus s1 ⟨vs,H1,I1,r,q⟩=>⟨I1.il,?_⟩) he eF;exact Ap F hr hb hd hx I1 r q
theorem J0{pl:Sem Bool}(he:PE X o ta)(c:uW X.K C)(hm:Meth X.K C m f)(F:FnOk X.prog X.w X.K X.mg X.base CX k f fd ps sp)(hr:cn k X.A)(hb:Binds X.K fd ps ds)(hd:Vals bu ds)(hx:Passes CX X E)(ha:PA X (e::es) t)
  (kF:starEach (e::es) X.env=(false,eval e X.env)::starEach es X.env:=by rfl) (eF:(backTo pos (starEach es X.env)).any (·.1)=false:=by rfl)
  (ht:eval (.Call (.Attribute o m apos) (e::es) [] pos) X.env=(do
   let ov <-eval o X.env
   standAt apos.atName
   let (f,first) <-holding [ov] (getMethod ov m pl)
   callWith pos f first (backTo pos (starEach (e::es) X.env)) (backToKw pos (keywordEach [] X.env))):=by rfl):
  PE X (.Call (.Attribute o m apos) (e::es) [] pos) (Ek C m sp bu E ta t):=by
 intro pins s σ H Q I h;refine PySem.W.methodCall_KW (pl:=pl) (thn (he pins s σ H _ I h) λu s1 ⟨x,H1,I1,rx,a,dx,fs,ex,ea,l,q⟩=>?_) ht;subst ex;obtain rfl:u=Value.ref a:=rx;refine tS I1 ea c hm l ?_;refine PySem.W.callWith_K (first:= [.ref a]) (h₀:=X.base) I.ok.mod.kin hm.kp (thn (ha pos pins s1 σ H1 _ I1 q) λus s2 ⟨vs,H2,I2,r,q2⟩=>⟨I2.il,?_⟩) kF eF;exact Ap (us:= .ref a::us) (vs:= .ref a::vs) F hr hb hd hx I2 (.cons rfl r) q2
theorem GR{pl:Sem Bool}(he:PE X o ta)(c:uW X.K C)(hm:Meth X.K C m f)(F:FnOk X.prog X.w X.K X.mg X.base CX k f fd ps sp)(hr:cn k X.A)(hb:Binds X.K fd ps ds)(hd:Vals bu ds)(hx:Passes CX X E)
  (ht:eval (.Call (.Attribute o m apos) [] [] pos) X.env=(do
   let ov <-eval o X.env
   standAt apos.atName
   let (f,first) <-holding [ov] (getMethod ov m pl)
   callWith pos f first (backTo pos (starEach [] X.env)) (backToKw pos (keywordEach [] X.env))):=by rfl):
  PE X (.Call (.Attribute o m apos) [] [] pos) (Ek C m sp bu E ta OV):=by
 intro pins s σ H Q I h;refine PySem.W.methodCall_KW (pl:=pl) (thn (he pins s σ H _ I h) λu s1 ⟨x,H1,I1,rx,a,dx,fs,ex,ea,l,q⟩=>?_) ht;subst ex;obtain rfl:u=Value.ref a:=rx;refine tS I1 ea c hm l ?_;exact PySem.W.callWith_K0 (first:= [.ref a]) I1.il hm.kp (Ap (us:= [.ref a]) (vs:= [.ref a]) F hr hb hd hx I1 (.cons rfl .nil) q)
structure Mk (K:PySem.W.Frag) (C f:Addr):Prop where
 makes:PySem.W.makesIn K C=true
 init:PySem.W.findIn K (.ref C) "__init__"=some (some (.ref f))
 fn:PySem.W.isFn K (.ref f)=true
 kp:PySem.W.keepIn K (.ref C)=true
theorem Hb{pins:List (Addr×Obj)}{σ:St}{H:Hp}{s:Shared}{Q:VK}{us:List Value}{vs:List V}(M:Mk X.K C f)(F:FnOk X.prog X.w X.K X.mg X.base CX k f fd ps sp)(hr:cn (k+1) X.A)(hb:Binds X.K fd ps ds)(hd:Vals bu ds)
  (hx:Passes CX X E) (I:Inv X pins σ H s) (r:Vals vs us)
  (h:∀x dx,H x=none->H dx=none->dx≠x->sp (.ref x::(vs++bu)) (upd (upd H dx (.own x)) x (.ins C dx [])) (λv H2=>v= .aZ/\Q (.ref x) H2) E):
  wpAny (model X.prog X.w) X.A (call (.ref C) us) (EP X pins σ Q) X.xe s:=by
 have hq:=h (s.heap.objs.size+1) s.heap.objs.size (I.hok.fresh (pE _)) (I.hok.fresh (br _)) (cH (Cv _));have I2:=Inv.made (C:=C) I;have r2:Vals (V.ref (s.heap.objs.size+1)::(vs++bu)) (Value.ref (s.heap.objs.size+1)::(us++ds)):= .cons rfl (r.append hd)
 have hl:(Value.ref (s.heap.objs.size+1)::us++ds).length=ps.length:=by
  have e:=r2.length;rw[F.len _ _ _ _ hq] at e;exact e.symm
 refine wpAny_call (GD (f:=f) I.il M.makes M.init (beq_iff_eq.mp M.fn) (codeAny_mono (F.run _ X.stack _ _ ⟨Value.ref (s.heap.objs.size+1)::us,[]⟩ (Value.ref (s.heap.objs.size+1)::(us++ds)) _ _ E (hr.make C us [])
  (I2.Oz.make C us []) (hb _ (Value.ref (s.heap.objs.size+1)::us) I2.il hl) r2 hq) λr s' De=>?_))
 cases r with
 |error e=>exact hx pins σ _ _ e s' I2 De
 |ok fl=>
  cases fl with
  |ret u=>
   rfl';obtain⟨v,H',I3,rv,ev,q3⟩:=I2.after De;subst ev;ac_rfl;exact⟨rv,⟨V.ref (s.heap.objs.size+1),H',I3,rfl,q3⟩⟩
  |next=>exact False.elim De
  |brk=>exact False.elim De
  |cont=>exact False.elim De
theorem JZ(M:Mk X.K C f)(F:FnOk X.prog X.w X.K X.mg X.base CX k f fd ps sp)(hr:cn (k+1) X.A)(hg:Gl X x)(hm:X.mg x=some (.ref C))(hb:Binds X.K fd ps ds)(hd:Vals bu ds)(hx:Passes CX X E)
  (ha:PA X (e::es) t) (ik:(x==("__debug__":Str))=false:=by decide) (he:starEach (e::es) X.env=(false,eval e X.env)::starEach es X.env:=by rfl) (eF:(backTo pos (starEach es X.env)).any (·.1)=false:=by rfl):
  PE X (.Call (.Name x p) (e::es) [] pos) (RT C sp bu E t):=by
 intro pins s σ H Q I h;refine wpAny_Call_Name_kw (vN I hg hm ?_ ik);refine PySem.W.callWith_K (h₀:=X.base) I.ok.mod.kin M.kp (thn (ha pos pins s σ H _ I h) λus s1 ⟨vs,H1,I1,r,q⟩=>⟨I1.il,?_⟩) he eF;exact Hb M F hr hb hd hx I1 r q
end
section
variable {X:Cx} {CX:so} {k:Nat} {f C:Addr} {fd:FuncData} {ps ks:List Str} {sp:Sp} {E:XK} {x m:Str} {p pos apos aaz:Pos} {e o:Expr} {es:List Expr} {kws:List Keyword} {te ta:TE} {t tk:TA} {nm:Option Str}
variable {g:List Value->List Value->List Value} {gV:List V->List V->List V}
end
structure aB (N P:List Str) (sc:Scope):Prop where
 kind:sc.kind= .function
 co:sc.isCoroutine=false
 gen:sc.isGenerator=false
 nd:N.Nodup
 pre:N.take P.length=P
 par:∀x∈P,sc.names.lookup x=some .local\/sc.names.lookup x=some .cell
 nofree:∀y∈sc.names,y.2≠ .free
theorem vg{kindOf:Str->Option NameKind}{x:Str}:∀{binds:List (Str×Value)}{m:Str->Option Value},(∀v,(x,v)∉binds)->bindL kindOf binds m x=m x
 | [],_,_=>rfl
 | (n,v)::r,m,h=>by
  unfold bindL;rw[vg λw hw=>h w (b8 _ hw)]
  split
  ·have:x≠n:=by rintro rfl;exact h v cw
   simp[this]
  ·rfl
theorem ve{kindOf:Str->Option NameKind}{x:Str}:∀{binds:List (Str×Value)}{m:Str->Option Value},(∀v,(x,v)∉binds)->bindC kindOf binds m x=m x
 | [],_,_=>rfl
 | (n,v)::r,m,h=>by
  unfold bindC;rw[ve λw hw=>h w (b8 _ hw)]
  split
  ·rfl
  ·have:x≠n:=by rintro rfl;exact h v cw
   simp[this]
theorem vf{kindOf:Str->Option NameKind}{x:Str}{v:Value}:∀{P:List Str}{vs:List Value}{i:Nat}{m:Str->Option Value},P.Nodup->P[i]? =some x->vs[i]? =some v->kindOf x=some .local->
  bindL kindOf (P.zip vs) m x=some v
 | [],_,_,_,_,h,_,_=>by simp at h
 |_::_,[],_,_,_,_,h,_=>by simp at h
 |p::P,w::vs,0,m,nd,h1,h2,hk=>by
  simp at h1 h2;subst h1;subst h2;show bindL kindOf ((p,w)::P.zip vs) m p=_;unfold bindL;rw[vg λv hv=>(eI.mp nd).1 (List.of_mem_zip hv).1,if_pos hk];simp
 |p::P,w::vs,i+1,m,nd,h1,h2,hk=>by
  show bindL kindOf ((p,w)::P.zip vs) m x=_;unfold bindL;exact vf (i:=i) (eI.mp nd).2 (by simpa using h1) (by simpa using h2) hk
theorem vd{kindOf:Str->Option NameKind}{x:Str}{v:Value}:∀{P:List Str}{vs:List Value}{i:Nat}{m:Str->Option Value},P.Nodup->P[i]? =some x->vs[i]? =some v->kindOf x≠some .local->
  bindC kindOf (P.zip vs) m x=some v
 | [],_,_,_,_,h,_,_=>by simp at h
 |_::_,[],_,_,_,_,h,_=>by simp at h
 |p::P,w::vs,0,m,nd,h1,h2,hk=>by
  simp at h1 h2;subst h1;subst h2;show bindC kindOf ((p,w)::P.zip vs) m p=_;unfold bindC;rw[ve λv hv=>(eI.mp nd).1 (List.of_mem_zip hv).1,if_neg hk];simp
 |p::P,w::vs,i+1,m,nd,h1,h2,hk=>by
  show bindC kindOf ((p,w)::P.zip vs) m x=_;unfold bindC;exact vd (i:=i) (eI.mp nd).2 (by simpa using h1) (by simpa using h2) hk
def start(N:List Str)(vs:List V):St:=vs.map some++List.replicate (N.length-vs.length) none
def qu(CX:so)(P:Program)(w:World)(K:PySem.W.Frag)(mg:Str->Option Value)(base:Heap)(N:List Str)(qual:Str)(scope:Scope)(f:Addr)(cd:Value)(A:Around)(outer:List Env)(s:Shared)(H:Hp)(E:XK):Cx where
 prog:=P
 w:=w
 K:=K
 mg:=mg
 base:=base
 A:=A.deeper (envOfC qual scope s.heap.objs.size f cd)
 N:=N
 s₀:=s
 H₀:=H
 env:=envOfC qual scope s.heap.objs.size f cd
 outer:=outer
 stack:=envOfC qual scope s.heap.objs.size f cd::outer
 ex:= []
 calm:=true
 fn:=λ_=>true
 pn:= []
 xe:=λe s'=>wpAny (model P w) (A.deeper (envOfC qual scope s.heap.objs.size f cd)) (leaving (envOfC qual scope s.heap.objs.size f cd) e) (λ_ RM=>CX outer H s E e RM) (λe' RM=>CX outer H s E e' RM) s'
theorem yd{sc:Scope}{n:Nat}{x:Str}(h:sc.names.lookup x=some .cell):∃c,(cellsFrom n sc.names []).lookup x=some c:=by
 have q:=PySem.W.cellsFrom_some sc.names n [] (.inl h);exact Option.isSome_iff_exists.mp q
theorem Dq{CX:so}{P:Program}{w:World}{K:PySem.W.Frag}{mg:Str->Option Value}{base:Heap}{N ps:List Str}{qual:Str}{scope:Scope}{f:Addr}{cd:Value}{A:Around}{outer:List Env}{s s1:Shared}{H:Hp}{E:XK}{us:List Value}{vs:List V}
  (S:aB N ps scope) (hd:A.handled=none) (e0:Env0 P w K mg base A outer s H) (hl:vs.length=ps.length) (r:Vals vs us)
  (x:InCallC s s.heap.objs.size (bindL (envOfC qual scope s.heap.objs.size f cd).kindOf (ps.zip us) λ_=>none) (cellsFrom (s.heap.objs.size+1) scope.names []) (bindC (envOfC qual scope s.heap.objs.size f cd).kindOf (ps.zip us) λ_=>none) s1):
  Inv (qu CX P w K mg base N qual scope f cd A outer s H E) [] (start N vs) H s1:=by
 have eF:ps.length<=N.length:=by have:=congrArg List.length S.pre;rw[fj] at this;omega
 obtain⟨h1,tk,rfl,hk⟩:=x.done;have JB:∀b:Addr,b∉(qu CX P w K mg base N qual scope f cd A outer s H E).ex:=λb z=>absurd (show b∈([]:List Addr) from z) (by simp)
 refine⟨⟨e0.mod,S.kind,rfl,rfl,br _,λy z c h1 h2=>?_,λy hy=>?_,λy c _ h=>?_,λ_=>hd,Around.frames_deeper e0.frames, .inr ⟨rfl,rfl⟩,λb z=>absurd z (JB b),e0.bs,e0.bsz,λb _ _=>JB b,λb z=>absurd z (JB b),e0.funs,e0.frf⟩,
  rfl,e0.bare,Un.kept hk,⟨_,x.toInCall.ns,λi y v h1 h2 h3=>?_⟩,λy c h=>⟨_,x.cell y c h⟩,e0.hok.fresh (br _),λy c h=>?_,λp hp=>absurd (show p∈([]:List (Addr×Obj)) from hp) (by simp),e0.hok.kept hk,?_⟩
 ·exact name_of_addr x.apart (PySem.mem_of_lookup h1) (PySem.mem_of_lookup h2)
 ·have hy:scope.names.lookup y=some .cell\/scope.names.lookup y=some .free:=hy
  rcases hy with hy|hy
  ·exact yd hy
  ·exact absurd rfl (S.nofree _ (PySem.mem_of_lookup hy))
 ·exact Nat.le_of_lt (x.above y c (PySem.mem_of_lookup h))
 ·have hi:i<vs.length:=by
   unfold start at h2
   by_cases hi:i<vs.length
   ·exact hi
   ·rw[iH (by simpa using hi)] at h2
    rw[n6] at h2
    split at h2<;>cases h2
  have ha:vs[i]? =some v:=by
   unfold start at h2;rw[gE (by simpa using hi),cL] at h2
   cases e:vs[i]? with
   |none=>rw[e] at h2;cases h2
   |some a=>rw[e] at h2;cases h2;rfl
  obtain⟨u,hu,rv⟩:=r.get ha
  have hp:ps[i]? =some y:=by
   rw[<-S.pre,w9 (by omega)];exact h1
  have Xe:ps.Nodup:=by rw[<-S.pre];exact S.nd.sublist (List.take_sublist _ _)
  refine⟨u,rv,?_⟩
  rcases S.par y (eS hp) with k|k
  ·exact .inl ⟨k,vf Xe hp hu k⟩
  ·obtain⟨c,e⟩:=yd (n:=s.heap.objs.size+1) k
   refine .inr ⟨.inl k,c,e,?_⟩;have q:=x.cell y c e;rw[vd Xe hp hu (by show scope.names.lookup y≠_;rw[k];decide)] at q
   exact q
 ·exact e0.hok.fresh (Nat.le_of_lt (x.above y c (PySem.mem_of_lookup h)))
 ·unfold start
  show _=N.length;rw[dG,aI,kW];omega
theorem Qo{CX:so}{P:Program}{w:World}{K:PySem.W.Frag}{mg:Str->Option Value}{base:Heap}{k:Nat}{f:Addr}{name qual:Str}{params:Arguments}{body:List Stmt}{scope:Scope}{dV kV doc pm bc ct oc:Value}{an od:Option Addr}
  {BJ:Array (Option Value)} {N ps:List Str} {sp:Sp} (lk:K.lookup f=some ⟨oc,od, .func (PySem.W.fnOf name qual params body scope dV kV doc pm an bc ct),BJ⟩) (dh:PySem.W.codeIn K bc qual=true) (S:aB N ps scope)
  (len:∀vs H Q E,sp vs H Q E->vs.length=ps.length)
  (lE:∀(A:Around)(outer:List Env)(s:Shared)(H:Hp)(vs:List V)(Q:VK)(E:XK),cn k (A.deeper (envOfC qual scope s.heap.objs.size f bc))->sp vs H Q E->
   ∃t,lj (qu CX P w K mg base N qual scope f bc A outer s H E) body t/\t {nx:=λ_ H'=>Q .aZ H',rt:=Q} (start N vs) H):
  FnOk P w K mg base CX (k+1) f (PySem.W.fnOf name qual params body scope dV kV doc pm an bc ct) ps sp:=by
 refine⟨len,λA outer s H args us vs Q E hr e0 hb r Bl=>?_⟩;have hl:=len _ _ _ _ Bl;have KX:K.In s.heap:=e0.mod.kin.keeps λb o e=>(e0.bs b o e).1;have lim:s.heap.NoLimit:=e0.mod.nolimit.keeps λb o e=>(e0.bs b o e).1
 have QL:∀y∈ps.zip us,scope.names.lookup y.1=some .local\/(scope.names.lookup y.1=some .cell/\((cellsFrom (s.heap.objs.size+1) scope.names []).lookup y.1).isSome=true):=λ⟨n,v⟩ hy=>by
  rcases S.par n (List.of_mem_zip hy).1 with q|q
  ·exact .inl q
  ·exact .inr ⟨q,PySem.W.cellsFrom_some _ _ _ (.inl q)⟩
 refine codeAny_call_function hr.depth (KX _ _ lk) rfl S.co S.gen rfl (PySem.W.codeRec_of KX dh) (hb _ _ _ _ ?_);refine wpAny_newFunctionEnv_cells S.kind QL λenv he s1 x=>?_;subst he;obtain⟨t,ht,hq⟩:=lE A outer s H vs Q E (hr.deeper _) Bl;refine⟨lim.keeps x.toInCall.keep,codeAny_func ?_⟩;have I:Inv (qu CX P w K mg base N qual scope f bc A outer s H E) [] (start N vs) H s1:=Dq S hr.hd e0 hl r x;refine wpAny_mono (ht [] s1 (start N vs) H _ I hq) (λfl s' hs=>?_) λe s' hs=>hs
 have fin:∀{aC:St}{H':Hp}{v:V}{u:Value},Inv (qu CX P w K mg base N qual scope f bc A outer s H E) [] aC H' s'->RelV v u->Q v H'->CE outer P w H s Q u s':=
  λ {aC H' v u} J rv q=>⟨v,H',J.os,J.bare,J.base,J.hok,rv,q⟩
 cases fl with
 |ret u=>
  obtain⟨v,aC,H',J,rv,q⟩:=hs;exact fin J rv q
 |next=>
  obtain⟨aC,H',J,q⟩:=hs;exact fin (v:=V.aZ) (u:=Value.none) J rfl q
 |brk=>
  obtain⟨_,_,_,q⟩:=hs;exact False.elim q
 |cont=>
  obtain⟨_,_,_,q⟩:=hs;exact False.elim q
section
variable {X:Cx} {x:Str} {p pos:Pos} {e:Expr} {es:List Expr} {t:TA} {id T:String} {r:List V->Hp->VK->Prop}
def Z7(r:List V->Hp->VK->Prop)(t:TA):TE:=λσ H Q=>t σ H λvs H1=>r vs H1 Q
theorem tu(hc:cU X (.builtin id) r)(hg:Gl X x)(hm:X.mg x=none)(hv:bootBuiltins x=some (.builtin id))(ha:PA X (e::es) t)(hn:x≠"__name__":=by decide)(ik:(x==("__debug__":Str))=false:=by decide)
  (he:starEach (e::es) X.env=(false,eval e X.env)::starEach es X.env:=by rfl) (eF:(backTo pos (starEach es X.env)).any (·.1)=false:=by rfl):PE X (.Call (.Name x p) (e::es) [] pos) (Z7 r t):=by
 intro pins s σ H Q I h;refine wpAny_Call_Name_kw (hU I hg hm hv ?_ hn ik);exact PyProof.Rows.callWith_builtin1 (thn (ha pos pins s σ H _ I h) λus s1 ⟨vs,H1,I1,r1,q1⟩=>hc pins s1 σ H1 vs us Q I1 r1 q1) he eF
theorem D5(hc:cU X (.type T) r)(hg:Gl X x)(hm:X.mg x=none)(hv:bootBuiltins x=some (.type T))(ha:PA X (e::es) t)(hn:x≠"__name__":=by decide)(ik:(x==("__debug__":Str))=false:=by decide)
  (he:starEach (e::es) X.env=(false,eval e X.env)::starEach es X.env:=by rfl) (eF:(backTo pos (starEach es X.env)).any (·.1)=false:=by rfl):PE X (.Call (.Name x p) (e::es) [] pos) (Z7 r t):=by
 intro pins s σ H Q I h;refine wpAny_Call_Name_kw (hU I hg hm hv ?_ hn ik);exact PyProof.Rows.callWith_type1 (thn (ha pos pins s σ H _ I h) λus s1 ⟨vs,H1,I1,r1,q1⟩=>hc pins s1 σ H1 vs us Q I1 r1 q1) he eF
end
end L2
namespace HT
open PySem PyProof.Rows
def lexLt:List Int->List Int->Bool
 | [],[]=>false
 | [],_::_=>true
 |_::_,[]=>false
 |x::xs,y::ys=>if x=y then lexLt xs ys else decide (x<y)
theorem ib(x y:Int)(xs ys:List Int):lexLt (x::xs) (y::ys)=if x=y then lexLt xs ys else decide (x<y):=rfl
theorem ng:lexLt [] []=false:=rfl
theorem ma(y:Int)(ys:List Int):lexLt [] (y::ys)=true:=rfl
theorem lZ(x:Int)(xs:List Int):lexLt (x::xs) []=false:=rfl
theorem yo(A:Around)(s:Shared)(a:Int)(t:Tok)(c:Int)(u:Tok):∃e,SeqAt.EqAt A s (.int a t) (.int c u) e/\(e=true↔a=c):=
 ⟨(a==c),SeqAt.EqAt.int_int a t c u,by simp⟩
theorem y6(A:Around)(s:Shared)(a:Int)(t:Tok)(c:Int)(u:Tok)(prog:Program)(w:World)(E:Value->Shared->Prop)(Q:Value->Shared->Prop)(h:Q (.bool (decide (a<c))) s):
  wpAny (model prog w) A (richCompare .Lt (.int a t) (.int c u)) Q E s:=
 (PyProof.Rows.lt_int h:wpAny (model prog w) A (compareOp .Lt (.int a t) (.int c u)) Q E s)
section
open PySem.SeqAt
open PySem.AutoSeq1 (wpAny_loadPart')
open PySem.MeetsSeq PySem.MeetsSeq2 PySem.MeetsSeq3
theorem wN(l b:Addr)(items bI:Array Value)(n n2:Nat)(dd sC:Option Addr)(sl qi:Array (Option Value))(ns ms:List Int)(hi:IntsAre items.toList ns)(hj:IntsAre bI.toList ms):
  Meets (Builtin.«tuple.__lt__» ⟨[.ref l, .ref b],[]⟩)
   (λ_ R s=>s.heap.get? l=some {cls:= .type "tuple",dict:=dd,data:= .seq items n,slots:=sl}/\s.heap.get? b=some {cls:= .type "tuple",dict:=sC,data:= .seq bI n2,slots:=qi}/\
    R (.ok (.ret (.bool (lexLt ns ms)))) s):=
 .of_wp λprog w A R s h=>by
  obtain⟨hp,g,d,tk,os⟩:=s;obtain⟨hl,hb,h⟩:=h;have f2:=AutoSeq1.sub_tuple_tuple;have z1:items.size=ns.length:=by rw[<-hi.length];simp
  have z2:bI.size=ms.length:=by rw[<-hj.length];simp
  wp_walk using wpAny_loadPart' hl,wpAny_loadPart' hb,wpAny_forIn_list _ (λrest b s'=>b.1=none/\s'=⟨hp,g,d,tk,os⟩/\∃(vs ws:List Value)(GL GG:List Int),rest=vs.zip ws/\
   IntsAre vs GL/\IntsAre ws GG/\GL.length+bI.size=GG.length+items.size/\R (.ok (.ret (.bool (lexLt GL GG)))) ⟨hp,g,d,tk,os⟩) _
  case turn=>
   intro z00 rest b s' g9;obtain⟨y,x⟩:=z00;rfl';obtain⟨sN,rfl,vs,ws,GL,GG,hz,QY,LW,hlen,hR⟩:=g9;ac_rfl;cases QY with
   |nil=>rw[List.zip_nil_left] at hz;cases hz
   |cons a t Wa=>
    cases LW with
    |nil=>rw[List.zip_nil_right] at hz;cases hz
    |cons c u Wc=>
     rw[List.zip_cons_cons] at hz
     injection hz with hyx QT
     injection hyx with hy hx
     subst hy hx;rw[ib] at hR;simp only[dD] at hlen;obtain⟨e,he,Bi⟩:=yo A.in1 ⟨hp,g,d,tk,os⟩ a t c u;refine wpAny_bind (he prog w _ _ ?_);cases e with
     |true=>
      rw[if_pos (Bi.mp rfl)] at hR
      wp_walk
      exact⟨rfl,rfl,_,_,_,_,QT,Wa,Wc,by omega,hR⟩
     |false=>
      rw[if_neg (λq=>absurd (Bi.mpr q) cB)] at hR;have QU:=y6 A.in1 ⟨hp,g,d,tk,os⟩ a t c u prog w
      wp_walk using QU
      exact⟨_,rfl,by simpa using hR⟩
  case fin=>
   rintro⟨b1,b2⟩ s' ⟨sN,rfl,vs,ws,GL,GG,hz,QY,LW,hlen,hR⟩;simp only at sN;subst sN
   have hv:lexLt GL GG=decide (items.size<bI.size):=by
    cases QY with
    |nil=>
     cases LW with
     |nil=>
      simp only[xn] at hlen;rw[ng];exact(decide_eq_false (by omega)).symm
     |cons c u hw=>
      simp only[xn,dD] at hlen;rw[ma];exact(decide_eq_true (by omega)).symm
    |cons a t hv=>
     cases LW with
     |nil=>
      simp only[xn,dD] at hlen;rw[lZ];exact(decide_eq_false (by omega)).symm
     |cons c u hw=>
      rw[List.zip_cons_cons] at hz;cases hz
   rw[hv] at hR
   wp_walk
   exact⟨_,rfl,by simpa [Builtin.Tuple.tupleCompareSizes] using hR⟩
  case h=>
   exact⟨rfl,rfl,items.toList,bI.toList,ns,ms,rfl,hi,hj,by omega,h⟩
end
section
variable {prog:Program} {w:World} {A:Around} {E:Value->Shared->Prop} {s:Shared}
theorem Bz{l b:Addr}{items bI:Array Value}{ns ms:List Int}{Q:Value->Shared->Prop}(hl:IsTup s.heap l items)(hb:IsTup s.heap b bI)(hi:IntsAre items.toList ns)(hj:IntsAre bI.toList ms)
  (hu:A.units<cLine) (h:Q (.bool (lexLt ns ms)) s):wpAny (model prog w) A (compareOp .Lt (.ref l) (.ref b)) Q E s:=by
 rfl';obtain⟨⟨cls,dd,data,sl⟩,ho,hc,n,hd⟩:=id hl;obtain⟨⟨Od,sC,data2,qi⟩,sP,Bg,n2,hd2⟩:=id hb;ac_rfl;simp only at hc hd Bg hd2;subst hc hd Bg hd2
 exact richCompare_meets_room (op:= .Lt) ⟨_,ho,rfl⟩ ⟨_,sP,rfl⟩ PySem.F.slot_tuple_lt PySem.F.entry_tuple_lt (PySem.F.args_tuple_lt_2 _ _) (wN l b items bI n n2 dd sC sl qi ns ms hi hj)
  ⟨ho,sP,show Value.bool (lexLt ns ms)≠Value.notImplemented/\Q (.bool (lexLt ns ms)) s from⟨(λx=>nomatch x),h⟩⟩ hu
theorem HP{t b:Addr}{vs ws:List Value}{Q:Value->Shared->Prop}(ht:IsTup s.heap t vs.toArray)(hb:IsTup s.heap b ws.toArray)(hv:vs≠ [])
  (h1:ws= []->Q (.ref t) s) (h2:ws≠ []->Q (.ref s.heap.objs.size) {s with heap:=s.heap.push {cls:= .type "tuple",data:= .seq (vs++ws).toArray}})
  (zX:vs.length+ws.length<=sizeLine):wpAny (model prog w) A (binaryOp .Add (.ref t) (.ref b)) Q E s:=by
 rfl';obtain⟨⟨cls,dd,data,sl⟩,ho,hc,n,hd⟩:=id ht;obtain⟨⟨Od,sC,data2,qi⟩,sP,Bg,n2,hd2⟩:=id hb;ac_rfl;simp only at hc hd Bg hd2;subst hc hd Bg hd2;have e:vs.toArray++ws.toArray=(vs++ws).toArray:=by simp
 by_cases hw:ws= []
 ·exact concat_meets ⟨_,ho,rfl⟩ ⟨_,sP,rfl⟩ noFill_tuple_add seq_tuple_add PySem.F.slot_tuple_add PySem.F.entry_tuple_add (PySem.F.args_tuple_add_2 _ _)
   (tuple_addW1 t b vs.toArray ws.toArray n n2 dd sC sl qi (by simpa using hv) (by simp[hw])) ⟨ho,sP,h1 hw⟩
 ·refine concat_meets ⟨_,ho,rfl⟩ ⟨_,sP,rfl⟩ noFill_tuple_add seq_tuple_add PySem.F.slot_tuple_add PySem.F.entry_tuple_add (PySem.F.args_tuple_add_2 _ _)
   (tuple_addW2 t b vs.toArray ws.toArray n n2 dd sC sl qi (by simpa using hv) (by simpa using hw) (by rw[fe,fe];exact zX)) ⟨ho,sP,?_⟩
  rw[e];exact h2 hw
def bD(n d:Nat):Option Int->Nat
 |none=>d
 |some v=>if v<0 then(v+(n:Int)).toNat else min v.toNat n
theorem M6(n d:Nat)(hd:d<=n)(o:Option Int):bD n d o<=n:=by
 cases o with
 |none=>exact hd
 |some v=>
  show(if v<0 then(v+(n:Int)).toNat else min v.toNat n)<=n
  by_cases hv:v<0
  ·rw[if_pos hv];omega
  ·rw[if_neg hv];exact Nat.min_le_right _ _
theorem AR(v:Int)(n d:Nat):(if v<0 then max (v+(n:Int)) 0 else min v (n:Int))=((bD n d (some v):Nat):Int):=by
 show(if v<0 then max (v+(n:Int)) 0 else min v (n:Int))=(((if v<0 then(v+(n:Int)).toNat else min v.toNat n):Nat):Int)
 by_cases hv:v<0
 ·simp only[if_pos hv];omega
 ·simp only[if_neg hv];omega
theorem AH(lo hi:Option Int)(n:Nat):Builtin.Slice.sliceAdjust lo hi 1 (n:Int)=(((bD n 0 lo:Nat):Int),((bD n n hi:Nat):Int)):=by
 have h1:¬((1:Int)<0):=by omega
 unfold Builtin.Slice.sliceAdjust;simp only[h1,if_false];refine Prod.ext ?_ ?_
 ·cases lo with
  |none=>rfl
  |some v=>exact AR v n 0
 ·cases hi with
  |none=>rfl
  |some v=>exact AR v n n
theorem BR(i j:Nat):Builtin.Slice.slicePlaces (i:Int) (j:Int) 1=j-i:=by
 unfold Builtin.Slice.slicePlaces;have h1:(1:Int)>0:=by omega
 simp only[h1,if_true,Int.ediv_one]
 split<;>omega
theorem t8{v:Value}{o:Option Int}{Q:Option Int->Shared->Prop}(p:IsPart v o)(h:Q o s):wpAny (model prog w) A (Builtin.Slice.slicePartIndex v) Q E s:=by
 cases p with
 |none=>exact slicePart_none h
 |int i t=>exact slicePart_int h
theorem jU{sl:Addr}{vl vu:Value}{lo hi:Option Int}{n:Nat}{Q:Int×Int×Nat->Shared->Prop}(hs:s.heap.IsSliceOf sl vl vu .none)(pl:IsPart vl lo)(pu:IsPart vu hi)
  (h:Q (((bD n 0 lo:Nat):Int),1,bD n n hi-bD n 0 lo) s):wpAny (model prog w) A (Builtin.Slice.sliceApplied (.ref sl) (pure (n:Int))) Q E s:=by
 rfl';obtain⟨os,C9,LL,C4⟩:=id hs;ac_rfl;unfold Builtin.Slice.sliceApplied Builtin.Slice.sliceFields;refine wpAny_bind (wpAny_bind (wpAny_field C9 C4 (x:=vl) rfl (wpAny_bind (wpAny_field C9 C4 (x:=vu) rfl (wpAny_bind (wpAny_field C9 C4 (x:= .none) rfl (wpAny_pure ?_)))))));refine wpAny_bind (slicePart_none ?_);rw[if_neg (by decide)]
 refine wpAny_bind (t8 pl (wpAny_bind (t8 pu (wpAny_bind (wpAny_pure ?_)))));show wpAny _ _ (match Builtin.Slice.sliceAdjust lo hi 1 (n:Int) with| (lo,hi)=>pure (lo,(1:Int),Builtin.Slice.slicePlaces lo hi 1)) _ _ s
 rw[AH lo hi n];show wpAny _ _ (pure (((bD n 0 lo:Nat):Int),(1:Int),Builtin.Slice.slicePlaces ((bD n 0 lo:Nat):Int) ((bD n n hi:Nat):Int) 1)) _ _ s;rw[BR];exact wpAny_pure h
theorem GV(xs:Array Value)(i k:Nat):((List.range k).filterMap λ(m:Nat)=>xs[((i:Int)+(m:Int)*1).toNat]?).toArray=((xs.toList.drop i).take k).toArray:=by
 have e:(λ(m:Nat)=>xs[((i:Int)+(m:Int)*1).toNat]?)=λm=>xs[i+m]? :=by
  funext m
  have:((i:Int)+(m:Int)*1).toNat=i+m:=by omega
  rw[this]
 rw[e]
 have:=pick_run xs i k
 rw[List.filterMap_map] at this;have e2:((λx=>xs[x]?)∘λx=>i+x)=λm=>xs[i+m]? :=rfl;rw[e2] at this;rw[this]
theorem pM{t sl:Addr}{items:Array Value}{vl vu:Value}{lo hi:Option Int}{Q:Value->Shared->Prop}(ht:IsTup s.heap t items)(hs:s.heap.IsSliceOf sl vl vu .none)(pl:IsPart vl lo)(pu:IsPart vu hi)
  (hw:¬(bD items.size 0 lo=0/\bD items.size items.size hi=items.size))
  (h:Q (.ref s.heap.objs.size) {s with heap:=s.heap.push {cls:= .type "tuple",data:= .seq ((items.toList.drop (bD items.size 0 lo)).take (bD items.size items.size hi-bD items.size 0 lo)).toArray}})
  (zX:items.size<=sizeLine):wpAny (model prog w) A (getItem (.ref t) (.ref sl)) Q E s:=by
 have zY:sizeOk (.seq ((items.toList.drop (bD items.size 0 lo)).take (bD items.size items.size hi-bD items.size 0 lo)).toArray):=by
  show((items.toList.drop (bD items.size 0 lo)).take (bD items.size items.size hi-bD items.size 0 lo)).toArray.size<=sizeLine;rw[fe,fj,kY,n9];omega
 have hj:bD items.size items.size hi<=items.size:=M6 _ _ (br _) hi;obtain⟨os,C9,LL,C4⟩:=id hs;have Qy:s.TypeIs (.ref sl) "slice":=⟨os,C9,LL⟩;unfold getItem
 try with_reducible refine wpAny_holding ?_
 first|refine wpAny_bind (wpAny_pure ?_) |skip
 refine wpAny_bind (wpAny_sequenceKey ht.typeIs (by decide) ?_)
 refine wpAny_bind (wpAny_callSpecial?_slot (name:=Str.ofString "__getitem__") ht.typeIs PyProof.Rows.slot_tuple_getitem
  (wpAny_call_entry PyProof.Rows.slot_tuple_getitem ht.typeIs entry_tuple_getitem ?_ (args_tuple_getitem _ _)))
 show wpAny _ _ (Builtin.Tuple.tupleItemsOf (.ref t)>>=_) _ _ s;refine wpAny_bind (tupleItemsOf_ ht ?_);refine wpAny_bind (wpAny_typeOf Qy ?_);rw[if_pos (by decide)]
 refine wpAny_bind (jU hs pl pu ?_)
 have QR:¬((((bD items.size 0 lo:Nat):Int)==0&&(1:Int)==1&&(bD items.size items.size hi-bD items.size 0 lo)==items.size)=true):=by
  intro q;rw[iJ,iJ] at q;have q1:((bD items.size 0 lo:Nat):Int)=0:=eq_of_beq q.1.1;have q2:bD items.size items.size hi-bD items.size 0 lo=items.size:=eq_of_beq q.2;exact hw ⟨by omega,by omega⟩
 show wpAny _ _ (if (((bD items.size 0 lo:Nat):Int)==0&&(1:Int)==1&&(bD items.size items.size hi-bD items.size 0 lo)==items.size)=true then _ else _) _ _ s;rw[if_neg QR,GV]
 first
  |exact wpAny_bind (m:=Builtin.Tuple.tupleExact _) (wpAny_newObj_type (wpAny_pure ⟨_,rfl,wpAny_pure h⟩) zY)
  |exact wpAny_bind (m:=Builtin.Tuple.tupleExact _) (wpAny_newObj_type (wpAny_bind (wpAny_pure (wpAny_pure ⟨_,rfl,wpAny_pure h⟩))) zY)
  |exact wpAny_bind (wpAny_bind (m:=Builtin.Tuple.tupleExact _) (wpAny_newObj_type (wpAny_pure (wpAny_pure ⟨_,rfl,wpAny_pure h⟩)) zY))
  |exact wpAny_bind (wpAny_bind (m:=Builtin.Tuple.tupleExact _) (wpAny_newObj_type (wpAny_pure ⟨_,rfl,wpAny_pure h⟩) zY))
end
end HT
namespace L2
open PySem PySem.Spec PyProof.Rows
abbrev TO:=St->Hp->(Option Int->Hp->Prop)->Prop
def PO(X:Cx)(e:Option Expr)(t:TO):Prop:=
 ∀(pins:List (Addr×Obj))(s:Shared)(σ:St)(H:Hp)(Q:Option Int->Hp->Prop),Inv X pins σ H s->t σ H Q->
  wpAny (model X.prog X.w) X.A (evalPart e X.env) (λu s'=>∃o H',Inv X pins σ H' s'/\IsPart u o/\Q o H') X.xe s
def KR:TO:=λ_ H Q=>Q none H
def RW(t:TE):TO:=λσ H Q=>t σ H λx H1=>∃i,x= .int i/\Q (some i) H1
theorem intsAre_of{ns:List Int}:∀{us:List Value},Vals (ns.map V.int) us->IntsAre us ns:=by
 induction ns with
 |nil=>intro us r;rw[List.map_nil] at r;cases r;exact .nil
 |cons n ns ih=>
  intro us r;rw[j0] at r;cases r with
  |cons r1 r2=>
   obtain⟨t,e⟩:=r1;subst e;exact .cons n t (ih r2)
section
variable {X:Cx} {e:Expr} {te:TE} {lo hi:Option Expr} {tl th:TO} {pos p2:Pos}
theorem J8:PO X none KR:=by
 intro pins s σ H Q I h;rw[evalPart_none];exact wpAny_pure ⟨none,H,I, .none,h⟩
theorem J9(h:PE X e te):PO X (some e) (RW te):=by
 intro pins s σ H Q I hw;rw[evalPart_some];refine thn (h pins s σ H _ I hw) λu s1 bz=>?_;rfl';obtain⟨x,H1,I1,r1,q1⟩:=bz;obtain⟨i,rfl,q⟩:=q1;obtain⟨t,rfl⟩:=r1;ac_rfl;exact⟨some i,H1,I1, .int i t,q⟩
def AF(X:Cx)(r:V->Option Int->Option Int->Hp->VK->Prop):Prop:=
 ∀(pins:List (Addr×Obj))(s:Shared)(σ:St)(H:Hp)(x:V)(v vl vu:Value)(lo hi:Option Int)(sl:Addr)(Q:VK),Inv X pins σ H s->RelV x v->s.heap.IsSliceOf sl vl vu .none->IsPart vl lo->IsPart vu hi->r x lo hi H Q->
  ∃T id,typeLookup (.type T) "__getitem__"=pure (some (.builtin id))/\s.TypeIs v T/\wpAny (model X.prog X.w) X.A (getItem v (.ref sl)) (EP X pins σ Q) X.xe s
theorem AF.or{r r':V->Option Int->Option Int->Hp->VK->Prop}(h:AF X r)(h':AF X r'):AF X (λx lo hi H Q=>r x lo hi H Q\/r' x lo hi H Q):=by
 intro pins s σ H x v vl vu lo hi sl Q I rx hs pl pu q
 rcases q with q|q
 ·exact h pins s σ H x v vl vu lo hi sl Q I rx hs pl pu q
 ·exact h' pins s σ H x v vl vu lo hi sl Q I rx hs pl pu q
def tSl(r:V->Option Int->Option Int->Hp->VK->Prop)(te:TE)(tl th:TO):TE:=λσ H Q=>te σ H λx H1=>tl σ H1 λl H2=>th σ H2 λu H3=>r x l u H3 Q
theorem tw{r:V->Option Int->Option Int->Hp->VK->Prop}(hr:AF X r)(he:PE X e te)(hl:PO X lo tl)(hu:PO X hi th):PE X (.Subscript e (.Slice lo hi none p2) pos) (tSl r te tl th):=by
 intro pins s σ H Q I h;refine Subscript_ (thn (he pins s σ H _ I h) λv s1 bz=>?_);rfl';obtain⟨x,H1,I1,r1,q1⟩:=bz;ac_rfl;refine wpAny_Slice (thn (hl pins s1 σ H1 _ I1 q1) λvl s2 ⟨l,H2,I2,pl,q2⟩=>thn (hu pins s2 σ H2 _ I2 q2) λvu s3 bz=>?_);rfl';obtain⟨u,H3,I3,pu,q3⟩:=bz;ac_rfl;rw[evalPart_none];refine wpAny_pure ?_;have I4:Inv X pins σ H3 {s3 with heap:=s3.heap.push {cls:= .type "slice",data:= .fields #[vl,vu, .none]}}:=I3.kept (t':=s3.toks) λb ob q=>Heap.get?_push_of_some _ q
 obtain⟨T,id,hT,ht,hg⟩:=hr pins {s3 with heap:=s3.heap.push {cls:= .type "slice",data:= .fields #[vl,vu, .none]}} σ H3 x v vl vu l u s3.heap.objs.size Q I4 r1 (Heap.IsSliceOf.new ..) pl pu q3
 exact tail_any (ops:= [.ref s3.heap.objs.size,v]) ht hT hg (by with_unfolding_all rfl)
def tM(xs:List V)(lo hi:Option Int):List V:=(xs.drop (HT.bD xs.length 0 lo)).take (HT.bD xs.length xs.length hi-HT.bD xs.length 0 lo)
theorem qt(xs:List V)(lo hi:Option Int):(tM xs lo hi).length<=xs.length:=by
 unfold tM;rw[fj,kY];omega
def Zj(K:PySem.W.Frag):V->Option Int->Option Int->Hp->VK->Prop:=λx lo hi H Q=>∃a xs,x= .ref a/\eB K H a xs/\
 ¬(HT.bD xs.length 0 lo=0/\HT.bD xs.length xs.length hi=xs.length)/\∀p,H p=none->Q (.ref p) (upd H p (.tup (tM xs lo hi)))
theorem Fq:AF X (Zj X.K):=by
 intro pins s σ H x v vl vu lo hi sl Q I rx hs pl pu h;rfl';obtain⟨a,xs,rfl,hx,hw,q⟩:=h;subst rx;obtain⟨its,r,ht,hz⟩:=I.tuple hx;have hlen:its.toArray.size=xs.length:=by rw[fe];exact r.length.symm
 ac_rfl;refine⟨"tuple",_,PyProof.Rows.slot_tuple_getitem.lookup,ht.typeIs,?_⟩;refine HT.pM ht hs pl pu (by rw[hlen];exact hw) ?_ (by rw[hlen];exact hz)
 rw[hlen];refine⟨.ref s.heap.objs.size,_,I.laid (t':=s.toks) (o:= .tup (tM xs lo hi)) (λb ob q=>Heap.get?_push_of_some _ q) (br _) ?_,rfl,q _ (I.hok.fresh (br _))⟩;exact⟨mG (qt xs lo hi) hz,_,(r.drop (HT.bD xs.length 0 lo)).take (HT.bD xs.length xs.length hi-HT.bD xs.length 0 lo),IsTup.new _ _⟩
def RB(K:PySem.W.Frag):R2:=λx y H Q=>∃a b xs ys,x= .ref a/\y= .ref b/\eB K H a xs/\eB K H b ys/\xs≠ []/\xs.length+ys.length<=sizeLine/\
 (ys= []->Q (.ref a) H)/\(ys≠ []->∀p,H p=none->Q (.ref p) (upd H p (.tup (xs++ys))))
theorem Vals.vW{xs:List V}{us:List Value}(r:Vals xs us):us= []↔xs= []:=by
 cases r with
 |nil=>simp
 |cons _ _=>simp
theorem JM:OpR X (binaryOp .Add) (RB X.K):=by
 intro pins s σ H x y v u Q I rx ry h;rfl';obtain⟨a,b,xs,ys,rfl,rfl,ha,hb,hx,hz,q1,q2⟩:=h;subst rx;subst ry;obtain⟨its,r1,p1,_⟩:=I.tuple ha;obtain⟨jj,r2,p2,_⟩:=I.tuple hb;ac_rfl;refine HT.HP p1 p2 (λz=>hx (r1.vW.mp z)) (λz=>⟨.ref a,H,I,rfl,q1 (r2.vW.mp z)⟩) (λz=>?_) (by rw[<-r1.length,<-r2.length];exact hz)
 refine⟨.ref s.heap.objs.size,_,I.laid (t':=s.toks) (o:= .tup (xs++ys)) (λb ob q=>Heap.get?_push_of_some _ q) (br _) ?_,rfl,q2 (λw=>z (r2.vW.mpr w)) _ (I.hok.fresh (br _))⟩;exact⟨by rw[dG];exact hz,_,r1.append r2,IsTup.new _ _⟩
end
def jD(n:Nat)(i:Int):Option Nat:=if 0<=i then(if i<n then some i.toNat else none) else if-(n:Int)<=i then some (i+n).toNat else none
def gv{α:Type}(xs:List α)(i:Int):Option α:=(jD xs.length i).bind λj=>xs[j]?
theorem qM{n:Nat}{i:Int}{j:Nat}(h:jD n i=some j):seqIndex? i n=some j/\j<n/\-(n:Int)<=i/\i<n:=by
 unfold jD at h
 by_cases h0:0<=i
 ·rw[if_pos h0] at h
  by_cases h1:i<n
  ·rw[if_pos h1] at h
   have e:i.toNat=j:=Option.some.inj h;exact⟨by rw[seqIndex_of h0 h1,e],by omega,by omega,h1⟩
  ·rw[if_neg h1] at h;cases h
 ·rw[if_neg h0] at h
  by_cases h1: -(n:Int)<=i
  ·rw[if_pos h1] at h
   have e:(i+n).toNat=j:=Option.some.inj h;exact⟨by rw[seqIndex_neg (by omega) h1,e],by omega,h1,by omega⟩
  ·rw[if_neg h1] at h;cases h
theorem AI{α:Type}{xs:List α}{i:Int}{v:α}(h:gv xs i=some v):∃j,seqIndex? i xs.length=some j/\xs[j]? =some v/\j<xs.length/\-(xs.length:Int)<=i/\i<xs.length:=by
 unfold gv at h;cases e:jD xs.length i with
 |none=>rw[e] at h;cases h
 |some j=>
  rw[e] at h;obtain⟨h1,h2,h3,h4⟩:=qM e;exact⟨j,h1,h,h2,h3,h4⟩
theorem AJ{α:Type}{xs:List α}{j:Nat}{v:α}(h:xs[j]? =some v):gv xs (j:Int)=some v:=by
 have hj:j<xs.length:=(cT.mp h).1
 have e:jD xs.length (j:Int)=some j:=by
  unfold jD;rw[if_pos (by omega),if_pos (by omega)];simp
 unfold gv;rw[e];exact h
def u5(b:Expr):Prop:=∀o i,subscripted b false o i=operate [o,i] (getItem o i)
def Cy(X:Cx)(r:R2):Prop:=
 ∀(value slice:Expr)(pins:List (Addr×Obj))(s:Shared)(σ:St)(H:Hp)(x y:V)(v u:Value)(Q:VK),Inv X pins σ H s->RelV x v->RelV y u->r x y H Q->
  subscripted slice false v u=operate [v,u] (getItem v u)->wpAny (model X.prog X.w) X.A (subscriptTail value slice v u) (EP X pins σ Q) X.xe s
def Lc(X:Cx)(id:String)(r:V->List V->Hp->VK->Prop):Prop:=
 ∀(pins:List (Addr×Obj))(s:Shared)(σ:St)(H:Hp)(x:V)(xs:List V)(v:Value)(us:List Value)(Q:VK),Inv X pins σ H s->RelV x v->Vals xs us->r x xs H Q->
  wpAny (model X.prog X.w) X.A (call (.builtin id) (v::us)) (EP X pins σ Q) X.xe s
section
variable {X:Cx} {a b:Expr} {ta tb:TE} {pos:Pos}
theorem Cy.or{r r':R2}(h:Cy X r)(h':Cy X r'):Cy X (λx y H Q=>r x y H Q\/r' x y H Q):=by
 intro value slice pins s σ H x y v u Q I rx ry q hs
 rcases q with q|q
 ·exact h value slice pins s σ H x y v u Q I rx ry q hs
 ·exact h' value slice pins s σ H x y v u Q I rx ry q hs
theorem JX{r:R2}(hr:Cy X r)(ha:PE X a ta)(hb:PE X b tb)(hs:u5 b):PE X (.Subscript a b pos) (KU r ta tb):=by
 intro pins s σ H Q I h;exact Subscript_ (HL ha hb I h λv u s2 x y H2 I2 rx ry q=>hr a b pins s2 σ H2 x y v u Q I2 rx ry q (hs _ _))
def Zd(K:PySem.W.Frag):R2:=λx y H Q=>∃p xs i v,x= .ref p/\y= .int i/\bX K H p xs/\gv xs i=some v/\Q v H
def Ze(K:PySem.W.Frag):R2:=λx y H Q=>∃p xs i v,x= .ref p/\y= .int i/\eB K H p xs/\gv xs i=some v/\Q v H
theorem Bu:Cy X (Zd X.K):=by
 intro value slice pins s σ H x y v u Q I rx ry h hs;rfl';obtain⟨p,xs,i,z,rfl,rfl,hq,he,q⟩:=h;subst rx;obtain⟨t,rfl⟩:=ry;obtain⟨its,r,pl,hz⟩:=I.list hq;obtain⟨j,h1,h2,h3,h4,h5⟩:=AI he;obtain⟨w,ew,tF⟩:=r.get h2;have hl:=r.length;have hn:=lF;have fin:EP X pins σ Q w s:=⟨z,H,I,tF,q⟩;ac_rfl
 by_cases h0:0<=i
 ·have hj:i.toNat=j:=by
   rw[seqIndex_of h0 h5] at h1;exact Option.some.inj h1
  exact item_listR pl.isList h0 (by omega) (by rw[hj];simpa using ew) fin hs
 ·have hj:(i+(its.toArray.size:Int)).toNat=j:=by
   rw[seqIndex_neg (by omega) h4] at h1
   rw[fe,<-hl];exact Option.some.inj h1
  exact subscriptTail_builtinR (x:=w) pl.isList.typeIs slot_list_getitem.lookup
   (wpAny_getItem_list_neg (Q:=λr s'=>r=w/\EP X pins σ Q r s') pl.isList (by omega) (by rw[fe]<;>omega) (by omega) (by rw[hj];simpa using ew) ⟨rfl,fin⟩) hs
theorem L3:Cy X (Ze X.K):=by
 intro value slice pins s σ H x y v u Q I rx ry h hs;rfl';obtain⟨p,xs,i,z,rfl,rfl,hq,he,q⟩:=h;subst rx;obtain⟨t,rfl⟩:=ry;obtain⟨its,r,pl,hz⟩:=I.tuple hq;obtain⟨j,h1,h2,h3,h4,h5⟩:=AI he;obtain⟨w,ew,tF⟩:=r.get h2;have hl:=r.length;have hn:=lF;have fin:EP X pins σ Q w s:=⟨z,H,I,tF,q⟩;ac_rfl
 exact subscriptTail_builtinR (x:=w) pl.typeIs slot_tuple_getitem.lookup
  (getItem_tuple (j:=j) (Q:=λr s'=>r=w/\EP X pins σ Q r s') pl (by omega) (by omega) (by rw[fe,<-hl];exact h1) (by simpa using ew) ⟨rfl,fin⟩) hs
theorem BC(its:List Value)(n j:Nat)(u:Value):Obj.mapSeq (·.setIfInBounds j u) {cls:= .type "list",data:= .seq its.toArray n}={cls:= .type "list",data:= .seq (its.set j u).toArray n}:=by
 simp[Obj.mapSeq]
theorem Inv.lst{pins:List (Addr×Obj)}{σ:St}{H:Hp}{s:Shared}{p:Addr}{xs:List V}(I:Inv X pins σ H s)(h:H p=some (.lst xs)):
  ∃(its:List Value)(n:Nat),Vals xs its/\s.heap.get? p=some {cls:= .type "list",data:= .seq its.toArray n}/\xs.length<=sizeLine:=by
 obtain⟨z,its,n,r,e⟩:=I.hok p _ h;exact⟨its,n,r,e,z⟩
theorem Inv.Mh{pins:List (Addr×Obj)}{σ:St}{H:Hp}{s:Shared}{p:Addr}{xs ys:List V}{its its':List Value}{n n':Nat}{f:Obj->Obj}(I:Inv X pins σ H s)(h:H p=some (.lst xs))
  (ho:s.heap.get? p=some {cls:= .type "list",data:= .seq its.toArray n}) (hf:f {cls:= .type "list",data:= .seq its.toArray n}={cls:= .type "list",data:= .seq its'.toArray n'}) (r:Vals ys its') (hz:ys.length<=sizeLine) (t:Nat):
  Inv X pins σ (upd H p (.lst ys)) {s with heap:=s.heap.update p f,toks:=t}:=by
 have e:(s.heap.update p f).get? p=some {cls:= .type "list",data:= .seq its'.toArray n'}:=by
  rw[Heap.get?_update_self f ho (by rw[hf]<;>rfl),hf]
 refine I.write (x:=p) (e:=p) (by rw[h];trivial) (.inl rfl) (λb u hb q=>(Heap.get?_update_other _ _ (Ne.symm hb)).trans q) ⟨_,e⟩ ?_
 exact⟨hz,its',n',r,e⟩
def RD:V->V->V->Hp->(Hp->Prop)->Prop:=λo i v H Q=>∃p xs k j,o= .ref p/\i= .int k/\H p=some (.lst xs)/\jD xs.length k=some j/\Q (upd H p (.lst (xs.set j v)))
theorem set_list:Nz X RD:=by
 intro pins s σ H o i v ov iv u Q I ro ri rv h;rfl';obtain⟨p,xs,k,j,rfl,rfl,hp,hj,q⟩:=h;subst ro;obtain⟨t,rfl⟩:=ri;obtain⟨its,n,r,ho,hz⟩:=I.lst hp;obtain⟨h1,h2,h3,h4⟩:=qM hj;have hl:=r.length;have hn:=lF;ac_rfl
 have I':Inv X pins σ (upd H p (.lst (xs.set j v))) {s with heap:=s.heap.update p (Obj.mapSeq (·.setIfInBounds j u))}:=
  I.Mh hp ho (BC its n j u) (r.set rv j) (by rw[cM];exact hz) s.toks
 by_cases h0:0<=k
 ·have hk:k.toNat=j:=by
   rw[seqIndex_of h0 h4] at h1;exact Option.some.inj h1
  exact PySem.W.ki_setAt ho h0 (by omega) (by rw[fe,<-hl];exact h4) (by rw[hk];exact⟨_,I',q⟩)
 ·have hk:(k+(its.toArray.size:Int)).toNat=j:=by
   rw[seqIndex_neg (by omega) h3] at h1
   rw[fe,<-hl];exact Option.some.inj h1
  exact PySem.W.ki_setBack ho (by omega) (by rw[fe,<-hl];exact h3) (by omega) (by rw[hk];exact⟨_,I',q⟩)
theorem xV(lo hi:Option Int)(n:Nat):(sliceBounds lo hi none n).1=((HT.bD n 0 lo:Nat):Int)/\(sliceBounds lo hi none n).2.1=((HT.bD n n hi:Nat):Int)/\(sliceBounds lo hi none n).2.2=1:=by
 refine⟨?_,?_,rfl⟩
 ·cases lo with
  |none=>simp[sliceBounds,HT.bD]
  |some i=>
   simp only[sliceBounds,HT.bD,Option.getD_none,show(1:Int)>0 by decide,if_true]
   by_cases h:i<0
   ·simp only[h,if_true]<;>omega
   ·simp only[h,if_false]<;>omega
 ·cases hi with
  |none=>simp[sliceBounds,HT.bD]
  |some i=>
   simp only[sliceBounds,HT.bD,Option.getD_none,show(1:Int)>0 by decide,if_true]
   by_cases h:i<0
   ·simp only[h,if_true]<;>omega
   ·simp only[h,if_false]<;>omega
theorem wD(its:List Value)(lo hi:Option Int):slicePick its.toArray lo hi none=((its.drop (HT.bD its.length 0 lo)).take (HT.bD its.length its.length hi-HT.bD its.length 0 lo)).toArray:=by
 obtain⟨h1,h2,h3⟩:=xV lo hi its.toArray.size;unfold slicePick;rw[h1,h2,h3];simp only[sliceRange_one,pick_run,fe]<;>rfl
def Zi(K:PySem.W.Frag):V->Option Int->Option Int->Hp->VK->Prop:=λx lo hi H Q=>∃a xs,x= .ref a/\bX K H a xs/\∀p,H p=none->Q (.ref p) (upd H p (.lst (tM xs lo hi)))
theorem BY:AF X (Zi X.K):=by
 intro pins s σ H x v vl vu lo hi sl Q I rx hs pl pu h;rfl';obtain⟨a,xs,rfl,hx,q⟩:=h;subst rx;obtain⟨its,r,ht,hz⟩:=I.list hx;have hlen:=r.length;ac_rfl;refine⟨"list",_,slot_list_getitem.lookup,ht.isList.typeIs,?_⟩;refine wpAny_getItem_list_slice ht.isList hs pl pu .none (by simp) ?_ (by rw[fe]<;>omega)
 rw[wD,<-hlen];refine⟨.ref s.heap.objs.size,_,I.laid (t':=s.toks) (o:= .lst (tM xs lo hi)) (λb ob q=>Heap.get?_push_of_some _ q) (br _) ?_,rfl,q _ (I.hok.fresh (br _))⟩;exact⟨mG (qt xs lo hi) hz,_,0,(r.drop (HT.bD xs.length 0 lo)).take (HT.bD xs.length xs.length hi-HT.bD xs.length 0 lo),Heap.get?_push_size _ rfl⟩
def gx:V->Bool
 | .aZ=>true
 | .bl _=>true
 | .int _=>true
 | .str _=>true
 |_=>false
def vy:V->V->Bool
 | .aZ, .aZ=>true
 | .bl a, .bl b=>a==b
 | .bl a, .int b=>(if a then 1 else 0)==b
 | .int a, .bl b=>a==(if b then 1 else 0)
 | .int a, .int b=>a==b
 | .str a, .str b=>a==b
 |_,_=>false
theorem LF{A:Around}{s:Shared}{y x:V}{u v:Value}(ry:RelV y u)(rx:RelV x v)(fy:gx y=true)(fx:gx x=true):SeqAt.EqAt A s u v (vy y x):=by
 cases y with
 |aZ=>
  cases ry;cases x with
  |aZ=>cases rx;exact SeqAt.EqAt.same _
  |bl b=>cases rx;exact SeqAt.EqAt.none_bool b
  |int b=>obtain⟨t,rfl⟩:=rx;exact SeqAt.EqAt.none_int b t
  |str b=>obtain⟨t,rfl⟩:=rx;exact SeqAt.EqAt.none_str b t
  |_=>exact absurd (show false=true from fx) cB
 |bl a=>
  subst ry;cases x with
  |aZ=>cases rx;exact SeqAt.EqAt.bool_none a
  |bl b=>cases rx;exact SeqAt.EqAt.bool_bool a b
  |int b=>obtain⟨t,rfl⟩:=rx;exact SeqAt.EqAt.bool_int a b t
  |str b=>obtain⟨t,rfl⟩:=rx;exact SeqAt.EqAt.bool_str a b t
  |_=>exact absurd (show false=true from fx) cB
 |int a=>
  obtain⟨t',rfl⟩:=ry;cases x with
  |aZ=>cases rx;exact SeqAt.EqAt.int_none a t'
  |bl b=>cases rx;exact SeqAt.EqAt.int_bool a t' b
  |int b=>obtain⟨t,rfl⟩:=rx;exact SeqAt.EqAt.int_int a t' b t
  |str b=>obtain⟨t,rfl⟩:=rx;exact SeqAt.EqAt.int_str a t' b t
  |_=>exact absurd (show false=true from fx) cB
 |str a=>
  obtain⟨t',rfl⟩:=ry;cases x with
  |aZ=>cases rx;exact SeqAt.EqAt.str_none a t'
  |bl b=>cases rx;exact SeqAt.EqAt.str_bool a t' b
  |int b=>obtain⟨t,rfl⟩:=rx;exact SeqAt.EqAt.str_int a t' b t
  |str b=>obtain⟨t,rfl⟩:=rx;exact SeqAt.EqAt.str_str a t' b t
  |_=>exact absurd (show false=true from fx) cB
 |_=>exact absurd (show false=true from fy) cB
def oO(x:V)(u:Value):Bool:=match u with
 | .none=>vy .aZ x
 | .bool b=>vy (.bl b) x
 | .int i _=>vy (.int i) x
 | .str z _=>vy (.str z) x
 |_=>false
theorem uP{x y:V}{u:Value}(r:RelV y u)(f:gx y=true):oO x u=vy y x:=by
 cases y with
 |aZ=>cases r;rfl
 |bl b=>cases r;rfl
 |int i=>obtain⟨t,rfl⟩:=r;rfl
 |str z=>obtain⟨t,rfl⟩:=r;rfl
 |_=>exact absurd (show false=true from f) cB
theorem mP{x:V}:∀{xs:List V}{us:List Value},Vals xs us->xs.all gx=true->us.any (oO x)=xs.any λy=>vy y x
 |_,_, .nil,_=>rfl
 |y::xs,u::us, .cons r t,f=>by
  rw[tH,iJ] at f;rw[List.any_cons,List.any_cons,uP r f.1,mP t f.2]
theorem iY{A:Around}{s:Shared}{x:V}{v:Value}(rx:RelV x v)(fx:gx x=true):∀{xs:List V}{us:List Value},Vals xs us->xs.all gx=true->∀u∈us,SeqAt.EqAt A s u v (oO x u)
 |_,_, .nil,_=>λu hu=>by cases hu
 |y::xs,u::us, .cons r t,f=>λu' hu=>by
  rw[tH,iJ] at f
  rcases cD.mp hu with rfl|hu
  ·rw[uP r f.1];exact LF r rx f.1 fx
  ·exact iY rx fx t f.2 u' hu
def L1(x:V)(xs:List V):Bool:=xs.any λy=>vy y x
def RC(K:PySem.W.Frag)(neg:Bool):R2:=λx y H Q=>∃p xs,y= .ref p/\(bX K H p xs\/eB K H p xs)/\gx x=true/\xs.all gx=true/\Q (.bl (if neg then !L1 x xs else L1 x xs)) H
theorem DZ:OpR X (compareOp .In) (RC X.K false):=by
 intro pins s σ H x y v u Q I rx ry h;rfl';obtain⟨p,xs,rfl,hq,fx,fs,q⟩:=h;subst ry;ac_rfl
 rcases hq with hq|hq
 ·obtain⟨its,r,pl,hz⟩:=I.list hq
  refine SeqAt.in_listAt (oO x) pl.isList (λw hw=>iY rx fx r fs w (by simpa using hw)) ⟨.bl _,H,I,rfl,?_⟩
  rw[show its.toArray.any (oO x)=its.any (oO x) by simp,mP r fs]
  exact q
 ·obtain⟨its,r,pl,hz⟩:=I.tuple hq
  refine SeqAt.in_tupleAt (oO x) pl (λw hw=>iY rx fx r fs w (by simpa using hw)) ⟨.bl _,H,I,rfl,?_⟩
  rw[show its.toArray.any (oO x)=its.any (oO x) by simp,mP r fs]
  exact q
theorem xT:OpR X (compareOp .NotIn) (RC X.K true):=by
 intro pins s σ H x y v u Q I rx ry h;rfl';obtain⟨p,xs,rfl,hq,fx,fs,q⟩:=h;subst ry;ac_rfl
 rcases hq with hq|hq
 ·obtain⟨its,r,pl,hz⟩:=I.list hq
  refine SeqAt.notIn_listAt (oO x) pl.isList (λw hw=>iY rx fx r fs w (by simpa using hw)) ⟨.bl _,H,I,rfl,?_⟩
  rw[show its.toArray.any (oO x)=its.any (oO x) by simp,mP r fs]
  exact q
 ·obtain⟨its,r,pl,hz⟩:=I.tuple hq
  refine SeqAt.notIn_tupleAt (oO x) pl (λw hw=>iY rx fx r fs w (by simpa using hw)) ⟨.bl _,H,I,rfl,?_⟩
  rw[show its.toArray.any (oO x)=its.any (oO x) by simp,mP r fs]
  exact q
theorem xB:cU X (.builtin "len") (λxs H Q=>∃p ys,xs= [.ref p]/\(bX X.K H p ys\/eB X.K H p ys)/\Q (.int ys.length) H):=by
 intro pins s σ H xs us Q I r h;rfl';obtain⟨p,ys,rfl,hq,q⟩:=h;obtain⟨u,rfl,rx⟩:=vals1 r;subst rx;have hn:=lF;ac_rfl
 rcases hq with hq|hq
 ·obtain⟨its,r',pl,hz⟩:=I.list hq
  have hlen:=r'.length;exact Calls.call_len_list pl.isList (by simp only[fe]<;>omega) ⟨.int ys.length,H,I.tok _,⟨s.toks+1,by rw[fe,hlen]⟩,q⟩
 ·obtain⟨its,r',pl,hz⟩:=I.tuple hq
  have hlen:=r'.length;exact len_tuple pl (by simp only[fe]<;>omega) ⟨.int ys.length,H,I.tok _,⟨s.toks+1,by rw[fe,hlen]⟩,q⟩
theorem xC:cU X (.type "list") (λxs H Q=>∃p ys,xs= [.ref p]/\(bX X.K H p ys\/eB X.K H p ys)/\∀l,H l=none->Q (.ref l) (upd H l (.lst ys))):=by
 intro pins s σ H xs us Q I r h;obtain⟨p,ys,rfl,hq,q⟩:=h;obtain⟨u,rfl,rx⟩:=vals1 r;subst rx
 have fin:∀(its:List Value),Vals ys its->ys.length<=sizeLine->∀(h':Heap)(c':Nat),(∀b o',s.heap.get? b=some o'->h'.get? b=some o')->
   h'.get? s.heap.objs.size=some {cls:= .type "list",dict:=none,data:= .seq its.toArray c',slots:= #[]}->EP X pins σ Q (.ref s.heap.objs.size) {s with heap:=h'}:=λits r' hz h' c' kp e=>
  ⟨.ref s.heap.objs.size,_,I.laid (t':=s.toks) kp (br _) (show cO X.prog X.w _ h' _ (.lst ys) from⟨hz,its,c',r',e⟩),rfl,q _ (I.hok.fresh (br _))⟩
 rcases hq with hq|hq
 ·obtain⟨its,r',pl,hz⟩:=I.list hq
  have hlen:=r'.length;obtain⟨o,ho,hc,n,hd⟩:=pl.isList;exact call_list_seq p (.inl rfl) ho hc hd (λh' c' kp e=>fin its r' hz h' c' kp e) (by simp only[fe]<;>omega)
 ·obtain⟨its,r',pl,hz⟩:=I.tuple hq
  have hlen:=r'.length;obtain⟨o,ho,hc,n,hd⟩:=pl;exact call_list_seq p (.inr rfl) ho hc hd (λh' c' kp e=>fin its r' hz h' c' kp e) (by simp only[fe]<;>omega)
theorem vj:cU X (.type "tuple") (λxs H Q=>∃p ys,xs= [.ref p]/\((bX X.K H p ys/\∀l,H l=none->Q (.ref l) (upd H l (.tup ys)))\/(eB X.K H p ys/\Q (.ref p) H))):=by
 intro pins s σ H xs us Q I r h;obtain⟨p,ys,rfl,h⟩:=h;obtain⟨u,rfl,rx⟩:=vals1 r;cases rx
 rcases h with ⟨hq,q⟩ | ⟨hq,q⟩
 ·obtain⟨its,r',pl,hz⟩:=I.list hq
  have hlen:=r'.length;refine call_tuple_list pl.isList (λh' kp=>?_) (by simp only[fe]<;>omega)
  have I1:Inv X pins σ H {s with heap:=h'}:=I.kept (t':=s.toks) kp
  have I2:Inv X pins σ (upd H h'.objs.size (.tup ys)) {s with heap:=h'.push {cls:= .type "tuple",data:= .seq its.toArray}}:=
   I1.laid (t':=s.toks) (λb o e=>Heap.get?_push_of_some _ e) (br _) (show cO X.prog X.w _ _ _ (.tup ys) from⟨hz,its,r',IsTup.new _ _⟩)
  exact⟨.ref h'.objs.size,_,I2,rfl,q _ (I1.hok.fresh (br _))⟩
 ·obtain⟨its,r',pl,hz⟩:=I.tuple hq
  exact call_tuple_same pl ⟨.ref p,H,I,rfl,q⟩
def Nq(K:PySem.W.Frag)(T:String)(x:V)(H:Hp):Prop:=match x with
 | .str _=>T="str"
 | .int _=>T="int"
 | .ref p=>(T="list"/\∃xs,bX K H p xs)\/(T="tuple"/\∃o,K.lookup p=some o/\o.cls= .type "tuple"/\o.dict=none)\/
   (T="dict"/\((∃eL,H p=some (.dK eL))\/∃eL,H p=some (.dT eL)))\/(T="set"/\∃S n,H p=some (.set S n))
 |_=>False
theorem Fx{pins:List (Addr×Obj)}{σ:St}{H:Hp}{s:Shared}{T:String}{x:V}{v:Value}(I:Inv X pins σ H s)(r:RelV x v)(ty:Nq X.K T x H):
  s.TypeIs v T/\∀a,v= .ref a->∃ob,s.heap.get? a=some ob/\ob.dict=none:=by
 cases x with
 |str z=>
  obtain⟨t,rfl⟩:=r;cases(show T="str" from ty);exact⟨typeIs_str s z t,λ_ e=>nomatch e⟩
 |int i=>
  obtain⟨t,rfl⟩:=r;cases(show T="int" from ty);exact⟨typeIs_int s i t,λ_ e=>nomatch e⟩
 |ref p=>
  subst r
  rcases ty with ⟨rfl,xs,hq⟩ | ⟨rfl,o,hk,hc,hd⟩ | ⟨rfl,hk⟩ | ⟨rfl,S,n,hk⟩
  ·obtain⟨its,_,pl,_⟩:=I.list hq
   refine⟨pl.isList.typeIs,λa e=>?_⟩;cases e;obtain⟨o,n,e,c,hd,_⟩:=pl;exact⟨o,e,hd⟩
  ·refine⟨⟨o,I.il p o hk,hc⟩,λa e=>?_⟩
   cases e;exact⟨o,I.il _ o hk,hd⟩
  ·have z:∃o,s.heap.get? p=some o/\o.ExactDict:=by
    rcases hk with ⟨eL,hk⟩ | ⟨eL,hk⟩
    ·obtain⟨_,_,_,_,o,_,_,e,ex,_⟩:=I.hok p _ hk
     exact⟨o,e,ex⟩
    ·obtain⟨_,_,_,_,o,_,_,e,ex,_⟩:=I.hok p _ hk
     exact⟨o,e,ex⟩
   obtain⟨o,e,ex⟩:=z;refine⟨⟨o,e,ex.1⟩,λa e2=>?_⟩;cases e2;exact⟨o,e,ex.2.1⟩
  ·obtain⟨o,_,_,_,e,ex,_⟩:=I.hok p _ hk
   refine⟨⟨o,e,ex.1⟩,λa e2=>?_⟩;cases e2;exact⟨o,e,ex.2.1⟩
 |_=>exact False.elim ty
def Z5(K:PySem.W.Frag)(T:String)(r:V->List V->Hp->VK->Prop)(to:TE):TE:=λσ H Q=>to σ H λx H1=>Nq K T x H1/\r x [] H1 Q
def tBM(K:PySem.W.Frag)(T:String)(r:V->List V->Hp->VK->Prop)(to:TE)(t:TA):TE:=λσ H Q=>to σ H λx H1=>Nq K T x H1/\t σ H1 λxs H2=>r x xs H2 Q
variable {o e:Expr} {es:List Expr} {to:TE} {t:TA} {name:Str} {apos aS:Pos} {T id:String} {r:V->List V->Hp->VK->Prop}
theorem ME(pa:PlainAttrs T)(slot:Slot T name id)(Bm:typeOf (.builtin id)=pure (.type "method_descriptor"))(hm:Lc X id r)(ho:PE X o to)
  (eV:attributeBase o name X.env (eval o X.env)=eval o X.env:=by rfl) (dS:(apos.endLine==aS.line)=true:=by rfl):PE X (.Call (.Attribute o name apos) [] [] aS) (Z5 X.K T r to):=by
 intro pins s σ H Q I h;refine wpAny_Call_method0_late eV dS (thn (ho pins s σ H _ I h) λv s1 bz=>?_);rfl';obtain⟨x,H1,I1,r1,ty,q1⟩:=bz;obtain⟨h1,h2⟩:=Fx I1 r1 ty;ac_rfl;exact⟨T,id,pa,slot,Bm,h1,h2,Calls.callWith_builtin rfl (PySem.evalArgs_none (hm pins s1 σ H1 x [] v [] Q I1 r1 .nil q1))⟩
theorem qc(pa:PlainAttrs T)(slot:Slot T name id)(Bm:typeOf (.builtin id)=pure (.type "method_descriptor"))(hm:Lc X id r)(ho:PE X o to)(ha:PA X (e::es) t)
  (eV:attributeBase o name X.env (eval o X.env)=eval o X.env:=by rfl)
  (jg:((backTo aS (starEach (e::es) X.env)).all (λx=>!x.1)&&(backToKw aS (keywordEach [] X.env)).all (λx=>x.1.isSome)
   &&decide ((e::es).length+([]:List Keyword).length+(if ([]:List Keyword).isEmpty then 0 else 1)<30))=true:=by rfl)
  (dS:(apos.endLine==aS.line)=true:=by rfl) (hs:starEach (e::es) X.env=(false,eval e X.env)::starEach es X.env:=by rfl) (eW:(backTo aS (starEach es X.env)).any (·.1)=false:=by rfl):
  PE X (.Call (.Attribute o name apos) (e::es) [] aS) (tBM X.K T r to t):=by
 intro pins s σ H Q I h;refine wpAny_Call_method_late eV jg dS rfl (thn (ho pins s σ H _ I h) λv s1 bz=>?_);rfl';obtain⟨x,H1,I1,r1,ty,q1⟩:=bz;obtain⟨h1,h2⟩:=Fx I1 r1 ty;ac_rfl;refine⟨T,id,pa,slot,Bm,h1,h2,?_⟩;have hA:=ha aS pins s1 σ H1 _ I1 q1;rw[hs] at hA ⊢;refine Calls.callWith_builtin (by show(false|| (backTo aS (starEach es X.env)).any (·.1))=false;rw[eW]<;>rfl) (Calls.evalArgs_plain ?_)
 exact thn hA λus s2 ⟨vs,H2,I2,r2,q2⟩=>hm pins s2 σ H2 x vs v us Q I2 r1 r2 q2
end
def Hv(X:Cx)(id:String)(r:V->List V->Hp->VK->Prop):Prop:=
 ∀(pins:List (Addr×Obj))(s:Shared)(σ:St)(H:Hp)(x:V)(xs:List V)(v:Value)(us:List Value)(Q:VK),Inv X pins σ H s->RelV x v->Vals xs us->r x xs H Q->
  wpAny (model X.prog X.w) X.A (call (.builtin id) (v::us)) (EP X pins σ Q) X.xe s
theorem Vals.one{x:V}{us:List Value}(h:Vals [x] us):∃u,us= [u]/\RelV x u:=by
 cases h with|cons r t=>cases t;exact⟨_,rfl,r⟩
theorem Vals.two{x y:V}{us:List Value}(h:Vals [x,y] us):∃u v,us= [u,v]/\RelV x u/\RelV y v:=by
 cases h with
 |cons r t=>
  obtain⟨v,rfl,q⟩:=Vals.one t;exact⟨_,v,rfl,r,q⟩
theorem Vals.zero:∀{us:List Value},Vals [] us->us= []
 |_, .nil=>rfl
theorem Vals.dropLast{xs:List V}{us:List Value}(h:Vals xs us):Vals xs.dropLast us.dropLast:=by
 induction h with
 |nil=>exact .nil
 |cons r t ih=>
  cases t with
  |nil=>exact .nil
  |cons q t'=>exact .cons r ih
theorem Vals.eraseIdx:∀{xs:List V}{us:List Value}(i:Nat),Vals xs us->Vals (xs.eraseIdx i) (us.eraseIdx i)
 |_,_,_, .nil=> .nil
 |_,_,0, .cons _ t=>t
 |_,_,i+1, .cons r t=> .cons r (Vals.eraseIdx i t)
theorem Vals.rep{xs:List V}{us:List Value}(h:Vals xs us):∀k:Nat,Vals (List.replicate k xs).flatten (List.replicate k us).flatten
 |0=> .nil
 |k+1=>by
  rw[xh,xh,pB,pB];exact Vals.append h (Vals.rep h k)
theorem A9{α:Type}(l:List α):l.eraseIdx (l.length-1)=l.dropLast:=by
 induction l with
 |nil=>rfl
 |cons a r ih=>
  cases r with
  |nil=>rfl
  |cons b r=>
   have e:(a::b::r).length-1=((b::r).length-1)+1:=by
    have h1:(a::b::r).length=r.length+2:=rfl;have h2:(b::r).length=r.length+1:=rfl;omega
   rw[e,List.eraseIdx_cons_succ,ih]
   all_goals rfl
theorem vO{α:Type}:∀(l:List α)(i:Nat),(l.eraseIdx i).length<=l.length
 | [],_=>br _
 |_::_,0=>pE _
 |_::r,i+1=>Nat.succ_le_succ (vO r i)
theorem foldl_rep(its:List Value):∀(k:Nat)(acc:List Value),
  List.foldl (λx1 x2=>x1++x2) acc.toArray (List.replicate k its.toArray)=(acc++(List.replicate k its).flatten).toArray
 |0,acc=>by simp
 |k+1,acc=>by
  have e:acc.toArray++its.toArray=(acc++its).toArray:=by simp
  have e2:(acc++its)++(List.replicate k its).flatten=acc++(List.replicate (k+1) its).flatten:=by
   rw[xh,pB,xi]
  rw[<-e2,<-foldl_rep its k (acc++its),<-e,xh,List.foldl_cons]
section
variable {X:Cx} {pins:List (Addr×Obj)} {σ:St} {H:Hp} {s:Shared} {l b:Addr} {xs ys zs:List V}
theorem Inv.E5{its its':List Value}{n:Nat}{f:Array Value->Array Value}{t':Nat}(I:Inv X pins σ H s)(hH:H l=some (.lst xs))
  (e:s.heap.get? l=some {cls:= .type "list",data:= .seq its.toArray n}) (hf:f its.toArray=its'.toArray) (hv:Vals ys its') (hz:ys.length<=sizeLine):
  Inv X pins σ (upd H l (.lst ys)) {s with heap:=s.heap.update l (Obj.mapSeq f),toks:=t'}:=by
 have q:=PySem.IsL.update e f;rw[hf] at q;refine I.write (x:=l) (e:=l) (by rw[hH];exact trivial) (.inl rfl) (λb' u hb hu=>(Heap.get?_update_other s.heap (Obj.mapSeq f) (Ne.symm hb)).trans hu) ⟨_,q⟩ ?_
 exact⟨hz,its',_,hv,q⟩
theorem Inv.E4{its:List Value}{t':Nat}(I:Inv X pins σ H s)(hv:Vals ys its)(hz:ys.length<=sizeLine):
  Inv X pins σ (upd H s.heap.objs.size (.lst ys)) {s with heap:=s.heap.push {cls:= .type "list",data:= .seq its.toArray},toks:=t'}:=
 I.laid (λ_ _ q=>Heap.get?_push_of_some _ q) (br _) ⟨hz,its,0,hv,Heap.get?_push_size _ rfl⟩
theorem Inv.fresh(I:Inv X pins σ H s):H s.heap.objs.size=none:=I.hok.fresh (br _)
theorem Inv.qT(I:Inv X pins σ H s)(hH:H l=some (.lst xs)):xs.length<=sizeLine/\∃(its:List Value)(n:Nat),Vals xs its/\xs.length=its.length/\s.heap.get? l=some {cls:= .type "list",data:= .seq its.toArray n}:=by
 obtain⟨z,its,n,r,e⟩:=I.hok l _ hH;exact⟨z,its,n,r,r.length,e⟩
theorem GK{n:Nat}(h:n<=sizeLine):Builtin.List.listTooLong n=false:=by
 unfold Builtin.List.listTooLong;exact decide_eq_false (by omega)
end
section
variable {X:Cx}
def Ki:V->List V->Hp->VK->Prop:=λx vs H Q=>∃l xs y,x= .ref l/\vs= [y]/\H l=some (.lst xs)/\xs.length<sizeLine/\Q .aZ (upd H l (.lst (xs++ [y])))
theorem jn:Hv X "list.append" Ki:=by
 intro pins s σ H x vs v us Q I rx rv h;rfl';obtain⟨l,xs,y,rfl,rfl,hH,hz,q⟩:=h;subst rx;obtain⟨u,rfl,ru⟩:=rv.one;obtain⟨z,its,n,r,hl,e⟩:=I.qT hH;ac_rfl;refine call_meets F.slot_list_append ⟨_,e,rfl⟩ F.entry_list_append (F.args_list_append_2 _ _) (PySem.list_append l its.toArray n u (by rw[fe];omega)) ⟨e,?_⟩
 refine⟨.aZ,_,I.E5 (its':=its++ [u]) hH e (by simp) (r.append (.cons ru .nil)) ?_,rfl,q⟩
 rw[dG,xg];omega
def Zg:V->List V->Hp->VK->Prop:=λx vs H Q=>∃l xs y,x= .ref l/\vs= []/\H l=some (.lst xs)/\xs[xs.length-1]? =some y/\Q y (upd H l (.lst xs.dropLast))
theorem Mj:Hv X "list.pop" Zg:=by
 intro pins s σ H x vs v us Q I rx rv h;rfl';obtain⟨l,xs,y,rfl,rfl,hH,hy,q⟩:=h;subst rx;have hus:=rv.zero;subst hus;obtain⟨z,its,n,r,hl,e⟩:=I.qT hH;obtain⟨u,hu,ru⟩:=r.get hy;ac_rfl
 have zZ:its.toArray[its.toArray.size-1]? =some u:=by
  show its.toArray[its.length-1]? =some u;rw[<-jX,<-hl];exact hu
 refine call_meets F.slot_list_pop ⟨_,e,rfl⟩ F.entry_list_pop (F.args_list_pop_1 _) (MeetsSeq.list_pop_last l its.toArray n u zZ (by rw[fe];omega)) ⟨e,?_⟩
 refine⟨y,_,I.E5 (its':=its.dropLast) hH e ?_ r.dropLast ?_,ru,q⟩
 ·show its.toArray.eraseIdxIfInBounds (its.toArray.size-1)=its.dropLast.toArray
  rw[fe,List.eraseIdxIfInBounds_toArray,A9]
 ·rw[List.length_dropLast]
  omega
def MY:V->List V->Hp->VK->Prop:=λx vs H Q=>∃l xs i k y,x= .ref l/\vs= [.int i]/\H l=some (.lst xs)/\-(2^63)<=i/\i<2^63/\seqIndex? i xs.length=some k/\xs[k]? =some y/\Q y (upd H l (.lst (xs.eraseIdx k)))
theorem yM:Hv X "list.pop" MY:=by
 intro pins s σ H x vs v us Q I rx rv h;obtain⟨l,xs,i,k,y,rfl,rfl,hH,h1,h2,hk,hy,q⟩:=h;cases rx;obtain⟨u,rfl,ru⟩:=rv.one;obtain⟨t,rfl⟩:=ru;obtain⟨z,its,n,r,hl,e⟩:=I.qT hH;obtain⟨w,hw,tF⟩:=r.get hy
 refine call_meets F.slot_list_pop ⟨_,e,rfl⟩ F.entry_list_pop (F.args_list_pop_2 _ _)
  (MeetsSeq.list_pop_at l its.toArray n i t k w (fitsIndex_both h1 h2) (by rw[fe,<-hl];exact hk) (by rw[<-jX];exact hw) (by rw[fe];omega)) ⟨e,?_⟩
 refine⟨y,_,I.E5 (its':=its.eraseIdx k) hH e ?_ (r.eraseIdx k) ?_,tF,q⟩
 ·show its.toArray.eraseIdxIfInBounds k=(its.eraseIdx k).toArray
  rw[List.eraseIdxIfInBounds_toArray]
 ·have:=vO xs k
  omega
def Zb:R2:=λx y H Q=>∃l b xs zs,x= .ref l/\y= .ref b/\H l=some (.lst xs)/\H b=some (.lst zs)/\xs.length+zs.length<=sizeLine/\∀p,H p=none->Q (.ref p) (upd H p (.lst (xs++zs)))
theorem qZ:OpR X (binaryOp .Add) Zb:=by
 intro pins s σ H x y v u Q I rx ry h;rfl';obtain⟨l,b,xs,zs,rfl,rfl,hH,hB,hz,q⟩:=h;subst rx;subst ry;obtain⟨z,its,n,r,hl,e⟩:=I.qT hH;obtain⟨z2,jj,n2,r2,IV,e2⟩:=I.qT hB;ac_rfl;refine PySem.P.add_list e e2 ?_ (by rw[fe,fe];omega)
 have ea:its.toArray++jj.toArray=(its++jj).toArray:=by simp
 rw[ea];exact⟨.ref _,_,I.E4 (t':=s.toks) (r.append r2) (by rw[dG];omega),rfl,q _ I.fresh⟩
def Zh:R2:=λx y H Q=>∃l k xs,x= .ref l/\y= .int k/\H l=some (.lst xs)/\-(2^63)<=k/\k<2^63/\xs.length*k.toNat<=sizeLine/\
 ∀p,H p=none->Q (.ref p) (upd H p (.lst (List.replicate k.toNat xs).flatten))
theorem len_rep{α:Type}(xs:List α)(k:Nat):(List.replicate k xs).flatten.length=k*xs.length:=by
 induction k with
 |zero=>simp
 |succ k ih=>rw[xh,pB,dG,ih,Nat.succ_mul,Nat.add_comm]
theorem MB:OpR X (binaryOp .Mult) Zh:=by
 intro pins s σ H x y v u Q I rx ry h;rfl';obtain⟨l,k,xs,rfl,rfl,hH,h1,h2,hz,q⟩:=h;subst rx;obtain⟨t,rfl⟩:=ry;obtain⟨z,its,n,r,hl,e⟩:=I.qT hH;have hlen:its.toArray.size*k.toNat<=sizeLine:=by rw[fe,<-hl];exact hz
 ac_rfl
 have VE:¬its.toArray.size*k.toNat>(2^63-1) / 8:=by
  have:(sizeLine:Nat)<=(2^63-1) / 8:=by decide
  omega
 have IS:¬(!Builtin.List.listFitsIndex k)=true:=by
  rw[fitsIndex_both h1 h2];exact cB
 have QN:¬Builtin.List.listTooLong (its.toArray.size*k.toNat)=true:=by
  rw[GK hlen];exact cB
 have VY:List.foldl (λx1 x2=>x1++x2) #[] (List.replicate (if its.toArray.isEmpty=true then 0 else k.toNat) its.toArray)=(List.replicate k.toNat its).flatten.toArray:=by
  have f0:∀m:Nat,List.foldl (λx1 x2=>x1++x2) #[] (List.replicate m its.toArray)=(List.replicate m its).flatten.toArray:=λm=>by
   have:=foldl_rep its m []
   rw[ue] at this;exact this
  rw[f0];cases its with
  |nil=>simp
  |cons a r'=>rw[if_neg (by simp)]
 refine wpAny_binaryOp_repeat_ref (T:="list") (U:="int") (by decide) ⟨_,e,rfl⟩ (λs'=>typeIs_int s' k t) noFill_list_mul F.fills_int_mul F.slot_int_rmul repeat_list F.slot_int_index.lookup
  (call_meets F.slot_int_rmul (typeIs_int s k t) F.entry_int_rmul (F.args_int_rmul_2 _ _) (int___rmul___int_list k t l its.toArray n)
   ⟨e,rfl,⟨_,e,rfl⟩,call_meets F.slot_list_mul ⟨_,e,rfl⟩ F.entry_list_mul (F.args_list_mul_2 _ _) (AutoListH.list___mul___list_int_3 l its.toArray n k t IS VE QN) ⟨e,?_⟩⟩)
 rw[VY];exact⟨.ref _,_,I.E4 (t':=s.toks) (r.rep k.toNat) (by rw[len_rep,Nat.mul_comm];exact hz),rfl,q _ I.fresh⟩
end
section
variable {prog:Program} {w:World} {A:Around} {E:Value->Shared->Prop} {s:Shared}
end
section
variable {X:Cx}
end
end L2
namespace R9
open PySem PySem.W PySem.Calls PyProof.Rows
theorem sR{P:Params}{h:Heap}:∀(ns:List Int)(vs:List Value),WellAll P h vs (ns.map WData.int)->IntsAre vs ns:=by
 intro ns
 induction ns with
 |nil=>
  intro vs w;rw[List.map_nil] at w;cases w;exact .nil
 |cons n ns ih=>
  intro vs w;rw[j0] at w;cases w with
  |cons a b=>
   cases a;exact .cons _ _ (ih _ b)
theorem Ed{l:OpenLaw}{n:Nat}(hn:l.most=some n){P:Params}{h:Heap}{args:List WData}{vals:List Value}
  (EW:l.row.toRowW.claim.pre args=true) (QZ:WellAll P h vals args):
  ∃a vs ns,vals= [Value.ref a]/\args= [WData.list (ns.map WData.int)]/\h.get? a=some {cls:= .type "list",data:= .seq vs.toArray}/\IntsAre vs ns/\ns.length<=n:=by
 have hsh:WShape.hasAll [] args [.list .int]=true:=(pre_splitW EW).1;have hc:l.pre.holds [] {args:=args}=true:=(pre_splitW EW).2;obtain⟨d,r,rfl,h1,h2⟩:=hasAllW_cons hsh;obtain rfl:=hasAllW_nil h2;obtain⟨xs,rfl,h3⟩:=hasW_list h1;obtain⟨ns,rfl⟩:=items_int h3
 have hlen:ns.length<=n:=by
  unfold OpenLaw.pre at hc
  have h4:(WTm.not (.lt (.lit (.int (n:Int))) (.len (.arg 0)))).holds [] {args:= [.list (ns.map .int)]}=true:=by
   have h4:=(holds_andW hc).1;rw[hn] at h4;exact h4
  have h5:=condW_of h4 (w_not (w_lt w_lit (w_len_list (w_arg rfl))));rw[aI] at h5;refine gH λq=>?_;have q':(n:Int)<((ns.length:Nat):Int):=by omega
  first
   | (rw[decide_eq_true q'] at h5;exact absurd h5 (by decide))
   | (simp at h5;omega)
 cases QZ with
 |cons w1 w2=>
  cases w2;cases w1 with
  |list ho je=>exact⟨_,_,ns,rfl,rfl,ho,sR ns _ je,hlen⟩
theorem D7(l:OpenLaw)(args:List WData):l.row.toRowW.claim.post args (.bool true) args=true:=
 postW_of (r:=l.row.toRowW) (X:=(true==true))
  (show WShape.has [] (.bool true) .bool=true by first|rfl|decide|simp[WShape.has,WShape.arms,WShape.armsAll])
  (show(WTm.eq .res (.lit (.bool true))).value [] {args:=args,res:=some (.bool true),after:=args}=some (.bool (true==true)) from w_eq_bool (w_res rfl) w_lit) rfl
theorem zy{l:OpenLaw}{n:Nat}{q:Program}{loose:List Str}{XP:(Str->Option Value)->Heap->Prop}{YP:World->Heap->Prop}{d:DefRec}
  (hn:l.most=some n) (C3:d.params.defaults= [])
  (call:∀(w:World)(s₀ s₁:Shared)(mg mb:Str->Option Value)(fa:Addr)(o:Obj)(pm cd doc:Value)(a:Addr)(vs:List Value)(ns:List Int),
   Ground q loose [] XP w s₀ mg mb s₁.heap->YP w s₁.heap->
   s₁.heap.get? fa=some o->o.data= .func (docDef d.name d.params d.body d.scope pm cd doc)->s₁.heap.CodeRec cd d.name->mg d.name=some (.ref fa)->
   s₁.heap.get? a=some {cls:= .type "list",data:= .seq vs.toArray}->IntsAre vs ns->ns.length<=n->s₁.gens= #[]->
   codeAny (model l.prog w) callerA (.call (.ref fa) ⟨[.ref a],[]⟩) (λr s'=>r= .ok (.ret (.bool true))/\OldK s₁.heap s'.heap/\s'.os=s₁.os/\AllBare s'.gens) s₁):
  WalkO q loose XP YP l.row.toRowW d [] (λf vs=>PySem.call f vs):=by
 intro w s₀ s₁ mg mb G Y fa o pm cd doc dV kV ho hd dh hD zV hg args vals as EW aaw hrd QZ hlo;obtain rfl:dV= .none:=Dflts.none hD C3;obtain rfl:kV= .none:=Dflts.noKw hD;rfl';obtain⟨a,vs,ns,rfl,rfl,IY,hints,hlen⟩:=Ed hn EW QZ;ac_rfl;refine enter_call (codeAny_mono (call w s₀ s₁ mg mb fa o pm cd doc a vs ns G Y ho (fd_plain hd) dh zV IY hints hlen hg) λr s' hq=>?_);obtain⟨rfl,h2,h3,h4⟩:=hq;exact⟨.inl ⟨.bool true, .bool true,[],rfl,λ_=>rfl, .bool true,D7 l _,λ_=>⟨List.Pairwise.nil,λ_ hm=>(nomatch hm)⟩⟩,h2,h3,h4⟩
section
variable {prog:Program} {w:World} {A:Around} {E:Value->Shared->Prop} {s:Shared} {K:Frag}
end
end R9
namespace L2
open PySem PySem.Spec PyProof.Rows
theorem wO:∀{vs:List Value}{ns:List Int},IntsAre vs ns->Vals (ns.map V.int) vs
 |_,_, .nil=> .nil
 |_,_, .cons n t h=> .cons ⟨t,rfl⟩ (wO h)
def Hw(H:Hp):Prop:=∀b,H b=none\/∃o xs,H b=some (.pL o (.lst xs))
theorem Gy{P:Program}{w:World}{K:PySem.W.Frag}{mg mb:Str->Option Value}{CX:so}{k:Nat}{fa a:Addr}{fd:FuncData}{x:Str}{sp:Sp}{s₁:Shared}{vs:List Value}{ns:List Int}
  (KX:K.In s₁.heap) (Bj:s₁.heap.Ns mainGlobals mg) (hb:s₁.heap.Ns builtinsNs mb) (hbb:∀x:Str,x≠"__name__"->mb x=bootBuiltins x) (VV:s₁.heap.NoLimit) (hg:s₁.gens= #[])
  (ha:s₁.heap.get? a=some {cls:= .type "list",data:= .seq vs.toArray}) (hi:IntsAre vs ns) (hl:ns.length<=sizeLine) (hr:cn k callerA)
  (F:∀base:Heap,K.In base->base.Ns mainGlobals mg->FnOk P w K mg base CX k fa fd [x] sp) (QA:∀(s:Shared)(u:Value),BindsTo s fd ⟨[u],[]⟩ [(x,u)])
  (Bl:∀H:Hp,Hw H->bX K H a (ns.map V.int)->sp [.ref a] H (λv _=>v= .bl true) λ_ _ _=>False)
  (Qt:∀H e s',CX [] H s₁ (λ_ _ _=>False) e s'->False):
  codeAny (model P w) callerA (.call (.ref fa) ⟨[.ref a],[]⟩) (λr s'=>r= .ok (.ret (.bool true))/\OldK s₁.heap s'.heap/\s'.os=s₁.os/\AllBare s'.gens) s₁:=by
 have rv:=wO hi;have Xa:=hi.length
 have core:∀H:Hp,Hw H->bX K H a (ns.map V.int)->iN P w H s₁.heap->(∀b,H b≠none->b=a)->(H a≠none->K.lookup a=none)->
   codeAny (model P w) callerA (.call (.ref fa) ⟨[.ref a],[]⟩) (λr s'=>r= .ok (.ret (.bool true))/\OldK s₁.heap s'.heap/\s'.os=s₁.os/\AllBare s'.gens) s₁:=by
  intro H hO hS hok hA hK;have AK:∀{b:Addr}{o:Obj},s₁.heap.get? b=some o->H b=none->(qJ s₁.heap H).get? b=some o:=λe n=>Gi e n
  have JB:∀{b:Addr}{o:Obj}{es:Array DictEntry}{ep:Nat},s₁.heap.get? b=some o->o.data= .dict es ep->H b=none:=λ {b o es ep} e d=>by
   cases q:H b with
   |none=>rfl
   |some u=>
    have e':b=a:=hA b (by rw[q];simp)
    subst e';rw[ha] at e;cases e;have d':Data.seq vs.toArray _=Data.dict es ep:=d;cases d'
  have Mm:∀{b:Addr}{m:Str->Option Value},s₁.heap.Ns b m->(qJ s₁.heap H).Ns b m:=λ {b m} ⟨o,es,ep,e,d,r⟩=>⟨o,es,ep,AK e (JB e d),d,r⟩
  have VB:K.In (qJ s₁.heap H):=λb o e=>AK (KX b o e) (by
   cases q:H b with
   |none=>rfl
   |some u=>
    have e':b=a:=hA b (by rw[q];simp)
    subst e';rw[hK (by rw[q];simp)] at e;cases e)
  have hM:Mod K mg (qJ s₁.heap H):=⟨VB,Mm Bj,⟨mb,Mm hb,hbb⟩,let ⟨mc,h1,h2⟩:=VV;⟨mc,Mm h1,h2⟩⟩;have e0:Env0 P w K mg (qJ s₁.heap H) callerA [] s₁ H:=⟨rfl,hM,λb o e=>JH e,Nat.le_of_eq (C6 _ _),trivial,λb hb=>absurd (show b∈([]:List Addr) from hb) (by simp),hok, .of_eq hg⟩
  refine codeAny_mono ((F _ VB (Mm Bj)).run callerA [] s₁ H ⟨[.ref a],[]⟩ [.ref a] [.ref a] _ _ hr e0 (QA s₁ (.ref a)) (.cons rfl .nil) (Bl H hO hS)) λr s' h=>?_;cases r with
  |error e=>exact(Qt H e s' h).elim
  |ok fl=>
   cases fl with
   |next=>exact False.elim h
   |brk=>exact False.elim h
   |cont=>exact False.elim h
   |ret u=>
    rfl';obtain⟨v,H',os,bare,un,V3,r',q⟩:=h;have q':v= .bl true:=q;subst q';ac_rfl;obtain rfl:u=Value.bool true:=r';refine⟨rfl,OldK.of_keep λb o e=>?_,os,bare⟩;cases q:H b with
    |none=>exact un.keep b o e q (by intro z;exact absurd (show b∈([]:List Addr) from z) (by simp)) (by simp)
    |some u=>
     rcases hO b with z| ⟨ob,xs,z⟩
     ·rw[q] at z;cases z
     ·have z2:=un.frzs b ob _ z
      obtain⟨e1,_⟩:=hok b _ z;obtain⟨e2,_⟩:=V3 b _ z2;rw[e] at e1;cases e1;exact e2
 cases hk:K.lookup a with
 |some o=>
  have e:=KX a o hk;rw[ha] at e;cases Option.some.inj e;refine core (λ_=>none) (λ_=> .inl rfl) (.inr ⟨_,vs.toArray,_,hk,rfl,rfl,rfl,by rw[fe,Xa];exact hl,by simpa using rv⟩) (λb u z=>by have z':(none:Option HO)=some u:=z;cases z') (λb z=>absurd rfl z) λz=>absurd rfl z
 |none=>
  refine core (λb=>if b=a then some (.pL {cls:= .type "list",data:= .seq vs.toArray} (.lst (ns.map V.int))) else none) (λb=>?_) (.inl (.inr ⟨{cls:= .type "list",data:= .seq vs.toArray},if_pos rfl⟩)) (λb u z=>?_) (λb z=>?_) λ_=>hk
  ·by_cases hb:b=a
   ·exact .inr ⟨_,_,if_pos hb⟩
   ·exact .inl (if_neg hb)
  ·by_cases hb:b=a
   ·have z':=(if_pos hb).symm.trans z
    obtain rfl:=Option.some.inj z';subst hb;exact⟨ha,by rw[aI];exact hl,vs,_,rv,ha⟩
   ·have z':=(if_neg hb).symm.trans z
    cases z'
  ·by_cases hb:b=a
   ·exact hb
   ·exact absurd (if_neg hb) z
theorem K3{l:PySem.W.OpenLaw}{n k:Nat}{q:Program}{loose:List Str}{XP:(Str->Option Value)->Heap->Prop}{YP:World->Heap->Prop}{d:DefRec}{K:Params->PySem.W.Frag}{CX:World->so}{sp:World->Sp}{x:Str}
  (hn:l.most=some n) (LU:n<=sizeLine) (C3:d.params.defaults= []) (hr:cn k callerA)
  (hY:∀(w:World)(h:Heap),YP w h->(K w.params).In h)
  (F:∀(w:World)(mg:Str->Option Value)(fa:Addr)(h:Heap),(K w.params).In h->h.Ns mainGlobals mg->mg d.name=some (.ref fa)->
   ∃fd:FuncData,(∀(s:Shared)(u:Value),BindsTo s fd ⟨[u],[]⟩ [(x,u)])/\
    ∀base:Heap,(K w.params).In base->base.Ns mainGlobals mg->FnOk l.prog w (K w.params) mg base (CX w) k fa fd [x] (sp w))
  (Bl:∀(w:World)(H:Hp)(a:Addr)(ns:List Int),ns.length<=n->Hw H->bX (K w.params) H a (ns.map V.int)->sp w [.ref a] H (λv _=>v= .bl true) λ_ _ _=>False)
  (Qt:∀(w:World)(H:Hp)(s:Shared)(e:Value)(s':Shared),CX w [] H s (λ_ _ _=>False) e s'->False):
  PySem.W.WalkO q loose XP YP l.row.toRowW d [] (λf vs=>PySem.call f vs):=by
 refine R9.zy hn C3 λw s₀ s₁ mg mb fa o pm cd doc a vs ns G Y ho hd dh zV IY hints hlen hg=>?_;have KX:=hY w _ Y;obtain⟨fd,hb,hF⟩:=F w mg fa _ KX G.T.g zV;exact Gy KX G.T.g G.T.b G.T.builtins G.T.nolimit hg IY hints (mG hlen LU) hr hF hb (λH hO hS=>Bl w H a ns hlen hO hS) λH e s'=>Qt w H s₁ e s'
def inClass(s:Stmt)(j:Nat):Stmt:=match s with
 | .ClassDef _ _ _ body _ _ _ _ _ _ _=>body.getD j (.Pass ⟨0,0,0,0⟩)
 |_=> .Pass ⟨0,0,0,0⟩
def jd(s:Stmt):Arguments:=match s with
 | .FunctionDef _ a _ _ _ _ _ _ _ _=>a
 |_=>{posonlyargs:= [],args:= [],vararg:=none,kwonlyargs:= [],kw_defaults:= [],kwarg:=none,defaults:= []}
def ft(s:Stmt):List Stmt:=match s with
 | .FunctionDef _ _ b _ _ _ _ _ _ _=>b
 |_=> []
def aq(s:Stmt):Scope:=match s with
 | .FunctionDef _ _ _ _ _ _ sc _ _ _=>sc
 |_=>{kind:= .function,names:= [],isGenerator:=false,isCoroutine:=false}
abbrev bB:so:=λ_ _ _ _ _ _=>False
abbrev E0:XK:=λ_ _ _=>False
theorem qa{X:Cx}:Passes bB X E0:=λ_ _ _ _ _ _ _ h=>h.elim
structure uZ (K:PySem.W.Frag) (x qual:Str) (st:Stmt) (f:Addr) (fd:FuncData):Prop where
 ex:∃(oc:Value)(od:Option Addr)(kV doc pm:Value)(an:Option Addr)(bc ct:Value)(BJ:Array (Option Value)),
  fd=PySem.W.fnOf x qual (jd st) (ft st) (aq st) .none kV doc pm an bc ct/\K.lookup f=some ⟨oc,od, .func fd,BJ⟩/\PySem.W.codeIn K bc qual=true
 kp:PySem.W.keepIn K (.ref f)=true
section
variable {P:Program} {w:World} {K:PySem.W.Frag} {mg:Str->Option Value} {base:Heap}
theorem uZ.ok{x qual:Str}{st:Stmt}{f:Addr}{fd:FuncData}{N ps:List Str}{k:Nat}{sp:Sp}(F:uZ K x qual st f fd)(S:aB N ps (aq st))(len:∀vs H Q E,sp vs H Q E->vs.length=ps.length)
  (lE:∀(bc:Value)(A:Around)(outer:List Env)(s:Shared)(H:Hp)(vs:List V)(Q:VK)(E:XK),cn k (A.deeper (envOfC qual (aq st) s.heap.objs.size f bc))->sp vs H Q E->
   ∃t,lj (qu bB P w K mg base N qual (aq st) f bc A outer s H E).jE (ft st) t/\t {nx:=λ_ H'=>Q .aZ H',rt:=Q} (start N vs) H):FnOk P w K mg base bB (k+1) f fd ps sp:=by
 rfl';obtain⟨oc,od,kV,doc,pm,an,bc,ct,BJ,rfl,lk,dh⟩:=F.ex;ac_rfl;refine Qo lk dh S len λA outer s H vs Q E hr Bl=>?_;obtain⟨t,h,q⟩:=lE bc A outer s H vs Q E hr Bl;exact⟨t,h.jE,q⟩
theorem uZ.binds{x qual:Str}{st:Stmt}{f:Addr}{fd:FuncData}{ps:List Str}(F:uZ K x qual st f fd)
  (h:∀(kV doc pm:Value)(an:Option Addr)(bc ct:Value)(us:List Value),us.length=ps.length->bindArgs (PySem.W.fnOf x qual (jd st) (ft st) (aq st) .none kV doc pm an bc ct) ⟨us,[]⟩=pure (ps.zip us)):Binds K fd ps []:=by
 rfl';obtain⟨oc,od,kV,doc,pm,an,bc,ct,BJ,rfl,lk,dh⟩:=F.ex;ac_rfl;exact .all (h kV doc pm an bc ct)
theorem qH{x qual:Str}{st:Stmt}{f:Addr}{oc:Value}{od an:Option Addr}{BJ:Array (Option Value)}{kV doc pm bc ct:Value}(l:K.lookup f=some ⟨oc,od, .func (PySem.W.fnOf x qual (jd st) (ft st) (aq st) .none kV doc pm an bc ct),BJ⟩)
  (c:PySem.W.codeIn K bc qual=true) (k:PySem.W.keepIn K (.ref f)=true):uZ K x qual st f (PySem.W.fnOf x qual (jd st) (ft st) (aq st) .none kV doc pm an bc ct):=⟨⟨oc,od,kV,doc,pm,an,bc,ct,BJ,rfl,l,c⟩,k⟩
end
theorem fw{n:Nat}(h:n<=1000):n<sizeLine:=Nat.lt_of_le_of_lt h (by decide)
section
variable {X:Cx}
theorem pv(i:Nat){x:Str}{pos:Pos}(hN:X.N[i]? =some x:=by rfl)(hv:j5 X.env.scope x:=by first|exact Or.inl rfl|exact Or.inr (Or.inl rfl) |exact Or.inr (Or.inr rfl))(hd:(x==("__debug__":Str))=false:=by decide)
  (dh:(x==("__classdict__":Str))=false:=by decide):PE X (.Name x pos) (OX i):=Al hN hv hd dh
end
theorem bH{A B:Prop}(h:B):if false=true then A else B:=by
 rw[if_neg cB];exact h
theorem b9{A B:Prop}(h:A):if true=true then A else B:=by
 rw[if_pos rfl];exact h
def aM(H H':Hp):Prop:=∀b o,H b=some o->H' b=some o
theorem aM.refl(H:Hp):aM H H:=λ_ _ h=>h
theorem aM.trans{H H1 H2:Hp}(a:aM H H1)(b:aM H1 H2):aM H H2:=λc o h=>b c o (a c o h)
theorem aM.free{H H':Hp}(e:aM H H'){l:Addr}(h:H' l=Option.none):H l=Option.none:=by
 cases q:H l with
 |none=>rfl
 |some o=>
  rw[e l o q] at h;cases h
def iE(env:Env):List (Str×NameKind)->List (Str×Addr)->List (Str×Addr)
 | [],cs=>cs
 | (n,k)::r,cs=>if k==NameKind.free then iE env r ((n,(env.cells.lookup n).getD 0)::cs) else iE env r cs
theorem gP{scope:Scope}{env:Env}(h:∀x∈scope.names,x.2= .free->∃c,env.cells.lookup x.1=some c):closureFor scope env=pure (iE env scope.names []):=by
 simp only[closureFor]
 have go:∀(names:List (Str×NameKind))(cs:List (Str×Addr)),(∀x∈names,x.2= .free->∃c,env.cells.lookup x.1=some c)->
   (forIn names cs λx __s=>if (x.snd==NameKind.free)=true then(do let a <-cellOf env x.fst;pure (ForInStep.yield ((x.fst,a)::__s))) else pure (ForInStep.yield __s))=(pure (iE env names cs):Sem _):=by
  intro names
  induction names with
  |nil=>intro cs _;rfl
  |cons x r ih=>
   obtain⟨n,k⟩:=x;intro cs h;rw[List.forIn_cons,iE];have hr:=λcs=>ih cs λy hy=>h y (b8 _ hy);cases hk:k==NameKind.free with
   |false=>
    simp only[hk,gL,if_false];exact hr cs
   |true=>
    have gS:k= .free:=by simpa using hk
    obtain⟨c,hc⟩:=h (n,k) cw gS;simp only at hc;simp only[if_true,cellOf,hc];exact hr _
 rw[go _ _ h];rfl
theorem fC{env:Env}:∀(names:List (Str×NameKind))(cs:List (Str×Addr)),(∀x∈names,x.2= .free->∃c,env.cells.lookup x.1=some c)->(∀x c,cs.lookup x=some c->env.cells.lookup x=some c)->
  ∀x c,(iE env names cs).lookup x=some c->env.cells.lookup x=some c
 | [],cs,_,hc=>hc
 | (n,k)::r,cs,h,hc=>by
  rw[iE]
  split
  ·rename_i hk
   refine fC r _ (λy hy=>h y (b8 _ hy)) λx c e=>?_;obtain⟨c',oP⟩:=h (n,k) cw (by simpa using hk)
   rw[r6] at e
   split at e
   ·rename_i hx
    have qK:x=n:=by simpa using hx
    subst qK;simp only at oP;rw[oP] at e ⊢;exact e
   ·exact hc x c e
  ·exact fC r cs (λy hy=>h y (b8 _ hy)) hc
theorem oh{env:Env}:∀(names:List (Str×NameKind))(cs:List (Str×Addr))(x:Str),((x,NameKind.free)∈names\/∃c,cs.lookup x=some c)->∃c,(iE env names cs).lookup x=some c
 | [],cs,x,h=>by
  rcases h with h|h
  ·cases h
  ·exact h
 | (n,k)::r,cs,x,h=>by
  rw[iE]
  split
  ·rename_i hk
   refine oh r _ x ?_
   by_cases e:x=n
   ·subst e;exact .inr ⟨(env.cells.lookup x).getD 0,by simp[r6]⟩
   ·have ne:(x==n)=false:=by simpa using e
    rcases h with h| ⟨c,h⟩
    ·rcases cD.mp h with z|z
     ·cases z;exact absurd rfl e
     ·exact .inl z
    ·exact .inr ⟨c,by rw[r6,ne];exact h⟩
  ·rename_i hk
   refine oh r cs x ?_
   rcases h with h|h
   ·rcases cD.mp h with z|z
    ·cases z;exact absurd rfl hk
    ·exact .inl z
   ·exact .inr h
def mB(src:List (Option Nat))(σ:St):St:=src.map λo=>o.bind λi=>(σ[i]?).bind id
def dR(scope:Scope)(XN:List Str):List (Option Nat)->List Str->Prop
 | [],[]=>True
 |none::r,_::n=>dR scope XN r n
 |some i::r,x::n=>XN[i]? =some x/\scope.names.lookup x=some .free/\dR scope XN r n
 |_,_=>False
theorem dR.len{scope:Scope}{XN:List Str}:∀{src:List (Option Nat)}{NC:List Str},dR scope XN src NC->src.length=NC.length
 | [],[],_=>rfl
 |none::r,_::n,h=>by have:=dR.len (src:=r) (NC:=n) h;simp[this]
 |some i::r,_::n,h=>by have:=dR.len (src:=r) (NC:=n) h.2.2;simp[this]
 | [],_::_,h=>h.elim
 |none::_,[],h=>h.elim
 |some _::_,[],h=>h.elim
theorem dR.at{scope:Scope}{XN:List Str}:∀{src:List (Option Nat)}{NC:List Str}{j i:Nat}{x:Str},dR scope XN src NC->src[j]? =some (some i)->NC[j]? =some x->XN[i]? =some x/\scope.names.lookup x=some .free
 | [],[],_,_,_,_,h,_=>by simp at h
 |none::r,_::n,0,_,_,_,h,_=>by simp at h
 |none::r,_::n,j+1,i,x,h,h1,h2=>dR.at (src:=r) (NC:=n) (j:=j) h (by simpa using h1) (by simpa using h2)
 |some k::r,y::n,0,i,x,h,h1,h2=>by
  have e1:k=i:=by simpa using h1
  have e2:y=x:=by simpa using h2
  subst e1 e2;exact⟨h.1,h.2.1⟩
 |some k::r,_::n,j+1,i,x,h,h1,h2=>dR.at (src:=r) (NC:=n) (j:=j) h.2.2 (by simpa using h1) (by simpa using h2)
 | [],_::_,_,_,_,h,_,_=>h.elim
 |none::_,[],_,_,_,h,_,_=>h.elim
 |some _::_,[],_,_,_,h,_,_=>h.elim
structure cE (X:Cx) (scope:Scope):Prop where
 kind:scope.kind= .function
 names:∀x∈scope.names,x.2= .local->scope.names.lookup x.1=some .local
 nocell:∀x∈scope.names,x.2≠ .cell
 free:∀x∈scope.names,x.2= .free->X.env.kindOf x.1=some .cell\/X.env.kindOf x.1=some .free
theorem iy{env:Env}:∀(names:List (Str×NameKind))(x:Str),
  (names.map λ(n,k)=>if (k==NameKind.free&&env.scope.kind== .function&&env.kindOf n==some .cell) then(n,NameKind.cell) else(n,k)).lookup x=
   (names.lookup x).map λk=>if (k==NameKind.free&&env.scope.kind== .function&&env.kindOf x==some .cell) then NameKind.cell else k
 | [],_=>rfl
 | (n,k)::r,x=>by
  have ih:=iy (env:=env) r x;show List.lookup x ((if (k==NameKind.free&&env.scope.kind== .function&&env.kindOf n==some .cell)=true then(n,NameKind.cell) else(n,k))::_)=_;cases hx:x==n with
  |true=>
   have e:x=n:=by simpa using hx
   subst e
   by_cases hc:(k==NameKind.free&&env.scope.kind== .function&&env.kindOf x==some .cell)=true
   ·rw[if_pos hc,r6,r6]
    simp only[hx];show some NameKind.cell=some (if _ then _ else _);rw[if_pos hc]
   ·rw[if_neg hc,r6,r6]
    simp only[hx];show some k=some (if _ then _ else _);rw[if_neg hc]
  |false=>
   by_cases hc:(k==NameKind.free&&env.scope.kind== .function&&env.kindOf n==some .cell)=true
   ·rw[if_pos hc];simp only[r6,hx];exact ih
   ·rw[if_neg hc];simp only[r6,hx];exact ih
theorem mem_lookup{names:List (Str×NameKind)}{x:Str}{k:NameKind}(h:names.lookup x=some k):(x,k)∈names:=PySem.mem_of_lookup h
def dA(X:Cx)(scope:Scope)(NC:List Str)(ex:List Addr)(s:Shared)(H:Hp):Cx:=
 {X with N:=NC,s₀:=s,H₀:=H,env:=compEnvC scope (iE X.env scope.names []) s.heap.objs.size X.env,outer:=X.stack,stack:=X.stack,ex:=ex,fn:=λ_=>false,pn:= [],xe:=λ_ _=>False}
section
variable {X:Cx} {pins:List (Addr×Obj)} {σ:St} {H:Hp} {s:Shared} {scope:Scope} {NC:List Str} {ex:List Addr} {src:List (Option Nat)}
theorem cE.cells(c:cE X scope)(ok:X.Ok):∀x∈scope.names,x.2= .free->∃c,X.env.cells.lookup x.1=some c:=λx hx e=>ok.has x.1 (c.free x hx e)
theorem cE.Q9(c:cE X scope){C:Addr}{x:Str}{k:NameKind}(h:(compEnvC scope (iE X.env scope.names []) C X.env).kindOf x=some k)(hk:k= .cell\/k= .free):scope.names.lookup x=some .free:=by
 have h':(relabel scope X.env).names.lookup x=some k:=h;unfold relabel at h';rw[iy] at h';cases e:scope.names.lookup x with
 |none=>rw[e] at h';cases h'
 |some k'=>
  have nc:=c.nocell _ (mem_lookup e);rw[e] at h';have h2:(if (k'==NameKind.free&&X.env.scope.kind== .function&&X.env.kindOf x==some .cell) then NameKind.cell else k')=k:=Option.some.inj h'
  by_cases hf:k'= .free
  ·rw[hf]
  ·have hb:(k'==NameKind.free)=false:=by simpa using hf
   rw[hb,wY,wY,if_neg cB] at h2
   rcases hk with z|z
   ·rw[h2] at nc;exact absurd z nc
   ·rw[h2] at hf;exact absurd z hf
theorem HR(I:Inv X pins σ H s)(c:cE X scope)(hf:∀b∈ex,fo X pins H b)(dZ:∀b∈ex,b<s.heap.objs.size):(dA X scope NC ex s H).Ok where
 mod:=I.ok.mod
 kind:=c.kind
 glob:=I.ok.glob
 blt:=I.ok.blt
 above:=br _
 inj:=λx y d h1 h2=>I.ok.inj x y d (fC _ _ (c.cells I.ok) (λ_ _ z=>by cases z) x d h1) (fC _ _ (c.cells I.ok) (λ_ _ z=>by cases z) y d h2)
 has:=λx hx=>oh _ _ x (.inl (mem_lookup (by rcases hx with h|h<;>exact c.Q9 h (by simp))))
 cab:=λ_ _ z=>by cases z
 hd:=I.ok.hd
 frames:=I.ok.frames
 stk:= .inl rfl
 exf:=λb hb=>⟨cH (dZ b hb),λx d e=>(hf b hb).2.2.2.2.1 x d (fC _ _ (c.cells I.ok) (λ_ _ z=>by cases z) x d e)⟩
 bs:=I.bs
 bsz:=mG I.ok.bsz I.sz
 noex:=λb o e hb=>by
  rcases(hf b hb).2.2.2.1 with z|z
  ·exact I.ok.noex b o e z
  ·exact absurd (gK (Heap.lt_size e) (mG I.ok.bsz z)) (gI _)
 exfs:=λb hb z=>(cD.mp (I.Au b z)).elim (hf b hb).2.1 (hf b hb).2.2.1
 funs:=I.stack
 frf:=I.Cb
theorem ye{h1:Heap}{tk:Nat}{ob:Obj}(I:Inv X pins σ H s)(c:cE X scope)(fH:dR scope X.N src NC)(hf:∀b∈ex,fo X pins H b)(dZ:∀b∈ex,b<s.heap.objs.size)
  (Bj:h1.Ns s.heap.objs.size (λ_=>none)) (zW:Heap.SameBut s.heap.objs.size (s.heap.push ob) h1):
  Inv (dA X scope NC ex s H) [] (mB src σ) H {s with heap:=h1,toks:=tk}:=by
 have old:∀b o,s.heap.get? b=some o->h1.get? b=some o:=λb o e=>zW.extBut b o (cH (Heap.lt_size e)) (Heap.get?_push_of_some _ e);have cl:∀x d,(iE X.env scope.names []).lookup x=some d->X.env.cells.lookup x=some d:=λx d=>fC _ _ (c.cells I.ok) (λ_ _ z=>by cases z) x d
 have cellK:∀d v,s.heap.IsCell d v->h1.IsCell d v:=λd v ⟨o,ho,hd⟩=>⟨o,old d o ho,hd⟩;refine⟨HR I c hf dZ,rfl,I.bare,Un.kept old,⟨_,Bj,λj x v e1 e2 e3=>?_⟩,λx d e=>?_,I.hok.fresh (br _),λx d e=>I.freeC x d (cl x d e),λp hp=>absurd (show p∈([]:List (Addr×Obj)) from hp) (by simp),I.hok.kept old,?_⟩
 ·have ig:(mB src σ)[j]? =some (some v):=e2
  unfold mB at ig;rw[cL] at ig;cases ej:src[j]? with
  |none=>rw[ej] at ig;cases ig
  |some o=>
   rw[ej] at ig;cases o with
   |none=>cases ig
   |some i=>
    have e4:(σ[i]?).bind id=some v:=Option.some.inj ig
    have e5:σ[i]? =some (some v):=by
     cases q:σ[i]? with
     |none=>rw[q] at e4;cases e4
     |some z=>rw[q] at e4;exact congrArg some e4
    rfl';obtain⟨hN,QG⟩:=fH.at ej e1;have hk:=c.free _ (mem_lookup QG) rfl;obtain⟨m,hn,hl⟩:=I.loc;obtain⟨u,r,l⟩:=hl i x v hN e5 (hk.elim (λz=> .inr (.inl z)) (λz=> .inr (.inr z)));ac_rfl;refine⟨u,r, .inr ⟨?_,?_⟩⟩
    ·show(relabel scope X.env).names.lookup x=_\/(relabel scope X.env).names.lookup x=_
     unfold relabel;rw[iy,QG]
     by_cases z:(NameKind.free==NameKind.free&&X.env.scope.kind== .function&&X.env.kindOf x==some .cell)=true
     ·left;simp only[Option.map_some,z,if_true]
     ·right;simp only[Option.map_some,z];rfl
    ·obtain⟨d,hd⟩:=oh (env:=X.env) scope.names [] x (.inl (mem_lookup QG))
     refine⟨d,hd,?_⟩
     rcases l with ⟨l,_⟩ | ⟨_,d',e,z⟩
     ·exfalso;rcases hk with z|z<;>(rw[l] at z;cases z)
     ·rw[cl x d hd] at e;cases e;exact cellK d _ z
 ·obtain⟨v,z⟩:=I.cell x d (cl x d e)
  exact⟨v,cellK d v z⟩
 ·show(mB src σ).length=NC.length
  unfold mB;rw[aI];exact fH.len
theorem comp_back{H':Hp}{aC:St}{s':Shared}{h2:Heap}{Am:List (Addr×Obj)}(I:Inv X pins σ H s)(hf:∀b∈ex,fo X pins H b)(J:Inv (dA X scope NC ex s H) Am aC H' s')
  (zW:Heap.SameBut s.heap.objs.size s'.heap h2):Inv X pins σ H' {s' with heap:=h2}:=by
 have up:∀b o,b≠s.heap.objs.size->s'.heap.get? b=some o->h2.get? b=some o:=λb o hb e=>zW.extBut b o hb e;have ne:∀b o,s.heap.get? b=some o->b≠s.heap.objs.size:=λb o e=>cH (Heap.lt_size e);have u:=J.base;refine I.O9 (ch:=ex) (show s'.os=s.os from J.os) ⟨λb o e n hb hx=>up b o (ne b o e) (u.keep b o e n hb hx),λb o e n hb hx=>?_,u.free,λb o e hx=>?_,u.tups,u.frzs,u.tbls⟩ ?_ J.bare λb hb=>?_
 ·obtain⟨sl,q⟩:=u.slot b o e n hb hx
  exact⟨sl,up b _ (ne b o e) q⟩
 ·obtain⟨o',q⟩:=u.there b o e hx
  exact⟨o',up b o' (ne b o e) q⟩
 ·intro b o e
  have nC:∀b o,H' b=some o->b≠s.heap.objs.size:=λb o e z=>by
   have:=J.free
   rw[z] at e;have e':H' s.heap.objs.size=none:=this;rw[e'] at e;cases e
  refine(J.hok b o e).rU (λd v hd q=>up d v ?_ q) (λ_ q=>q) λ_ _ q=>q
  rcases hd with z|z
  ·rw[z];exact nC b o e
  ·exact nC d _ z
 ·obtain⟨_,f1,_,f3,f4,f5⟩:=hf b hb
  exact⟨f3,f1,f4,f5⟩
end
def mM(X:Cx)(ifs:List Expr)(t:TT):Prop:=
 ∀(pins:List (Addr×Obj))(s:Shared)(σ:St)(H:Hp)(Q:Bool->Hp->Prop),Inv X pins σ H s->t σ H Q->
  wpAny (model X.prog X.w) X.A (forIn ifs true λc r=>if r=true then do let ok <-isTrue c X.env (eval c X.env);pure (ForInStep.yield ok) else pure (ForInStep.yield r)) (TP X pins σ Q) X.xe s
def aah:TT:=λ_ H Q=>Q true H
theorem Kc{X:Cx}:mM X [] aah:=λ_ _ _ H _ I h=>wpAny_tests_nil ⟨H,I,h⟩
theorem Kd{X:Cx}{c:Expr}{t:TT}(h:PT X c t):mM X [c] t:=λpins s σ H Q I q=>wpAny_tests_one (h pins s σ H Q I q)
def LCW(J:It)(g:TG)(tt:TT)(te:TE)(D:Addr)(Q:VK)(σ:St)(H:Hp):Prop:=
 ∃W:Nat->Nat->St->Hp->Prop,(∃m,W 0 m σ H)/\∀i m fF H2,W i m fF H2->
  (J.stop i H2/\Q (.ref D) H2)\/
  (J.go i H2/\∃N:St->Hp->Prop,(∀aC H',N aC H'->∃m',m'<m/\W (i+1) m' aC H')/\∀x H3,J.yld i H2 x H3->g x fF H3 λfG H4=>tt fG H4 λb H5=>
   if b=true then te fG H5 λv H6=>∃ys,H6 D=some (.lst ys)/\ys.length<sizeLine/\N fG (upd H6 D (.lst (ys++ [v]))) else N fG H5)
def Nj(wi:TI)(g:TG)(tt:TT)(te:TE)(src:List (Option Nat)):TE:=λσ H Q=>wi σ H λJ H1=>∀D,H1 D=none->LCW J g tt te D Q (mB src σ) (upd H1 D (.lst []))
section
variable {X:Cx} {elt iter tg:Expr} {ifs:List Expr} {scope:Scope} {pos:Pos} {wi:TI} {g:TG} {tt:TT} {te:TE} {src:List (Option Nat)} {NC:List Str}
theorem tL{pins:List (Addr×Obj)}{σ:St}{s2:Shared}{H2:Hp}{it:Addr}{fp:List Addr}{tn:Nat->Heap->Prop}{J:It}{RR:Value->Addr->Result->Shared->Prop}{E:Value->Shared->Prop}{Q:VK}
  (hc:X.calm=true) (c:cE X scope) (fH:dR scope X.N src NC) (I2:Inv X pins σ H2 s2) (T:Turn X.prog X.w X.K tg J fp it tn) (iC:tn 0 s2.heap) (f2:∀b∈fp,fo X pins H2 b)
  (hg:∀s H,PG (dA X scope NC fp s H) tg g) (ht:∀s H,mM (dA X scope NC fp s H) ifs tt) (he:∀s H,PE (dA X scope NC fp s H) elt te)
  (hW:∀D,H2 D=none->∃W:Nat->Nat->St->Hp->Prop,(∃m,W 0 m (mB src σ) (upd H2 D (.lst [])))/\∀i m fF H2,W i m fF H2->
   (J.stop i H2/\Q (.ref D) H2)\/
   (J.go i H2/\∃N:St->Hp->Prop,(∀aC H',N aC H'->∃m',m'<m/\W (i+1) m' aC H')/\∀x H3,J.yld i H2 x H3->g x fF H3 λfG H4=>tt fG H4 λb H5=>
    if b=true then te fG H5 λv H6=>∃ys,H6 D=some (.lst ys)/\ys.length<sizeLine/\N fG (upd H6 D (.lst (ys++ [v]))) else N fG H5))
  (Qw:∀D s3 H3 aC H' s',Inv X pins σ H3 s3->(∀b∈fp,fo X pins H3 b)->Inv (dA X scope NC fp s3 H3) [] aC H' s'->Q (.ref D) H'->RR (.ref D) s3.heap.objs.size (.ok .next) s'):
  wpAny (model X.prog X.w) X.A (newList []) (λacc KQ=>wpAny (model X.prog X.w) X.A (newFunctionEnv scope X.env.globals (iE X.env scope.names []) [] X.env.qual none .none (some X.env)) (λmQ wL=>
   codeAny (model X.prog X.w) X.A (.compStart (.ListComp elt [⟨tg,iter,ifs,0⟩] scope pos) 0 (.ref it) acc {mQ with scope:=relabel scope X.env}) (RR acc mQ.locals) wL) E KQ) E s2:=by
 rfl';obtain⟨W,⟨m0,w0⟩,turn⟩:=hW s2.heap.objs.size I2.fresh;have I3:Inv X pins σ (upd H2 s2.heap.objs.size (.lst [])) {s2 with heap:=s2.heap.push {cls:= .type "list",data:= .seq ([]:List Value).toArray}}:=I2.E4 (its:= []) (t':=s2.toks) .nil (cI _)
 ac_rfl
 have By:∀b∈fp,b<s2.heap.objs.size:=λb hb=>by
  obtain⟨o,e,_⟩:=T.obj _ _ iC b hb;exact Heap.lt_size e
 have f3:∀b∈fp,fo X pins (upd H2 s2.heap.objs.size (.lst [])) b:=λb hb=>⟨by rw[aw (cH (By b hb))];exact(f2 b hb).1,(f2 b hb).2⟩
 refine wpAny_newObj_type ?_
 suffices key:∀s3:Shared,Inv X pins σ (upd H2 s2.heap.objs.size (.lst [])) s3->(∀b o,s2.heap.get? b=some o->s3.heap.get? b=some o)->
   wpAny (model X.prog X.w) X.A (newFunctionEnv scope X.env.globals (iE X.env scope.names []) [] X.env.qual none .none (some X.env)) (λmQ wL=>
    codeAny (model X.prog X.w) X.A (.compStart (.ListComp elt [⟨tg,iter,ifs,0⟩] scope pos) 0 (.ref it) (.ref s2.heap.objs.size) {mQ with scope:=relabel scope X.env}) (RR (.ref s2.heap.objs.size) mQ.locals) wL) E s3 from
  key _ I3 λb o e=>Heap.get?_push_of_some _ e
 intro s3 I3 RZ;have Ca:tn 0 s3.heap:=T.keep _ _ _ iC λb _ o e=>RZ b o e
 have DL:∀b∈fp,b<s3.heap.objs.size:=λb hb=>by
  obtain⟨o,e,_⟩:=T.obj _ _ Ca b hb;exact Heap.lt_size e
 generalize hH3:upd H2 s2.heap.objs.size (.lst [])=H3 at I3 f3 w0;refine wpAny_newFunctionEnv c.nocell (by intro y hy;simp at hy) (λh1 Bj zW=>?_) c.kind
 have I4:=ye (src:=src) (NC:=NC) (ex:=fp) (tk:=s3.toks+([]:List (Str×Value)).length) I3 c fH f3 DL Bj zW;have KO:tn 0 h1:=T.keep _ _ _ Ca λb hb o e=>zW.extBut b o (cH (DL b hb)) (Heap.get?_push_of_some _ e);generalize hX:dA X scope NC fp s3 H3=XC at I4
 have stat:∀{H':Hp},(∀b∈fp,H' b=none)->∀b∈fp,fo XC [] H' b:=λ {H'} hn b hb=>by
  subst hX;refine⟨hn b hb,cH (DL b hb),λz=>?_, .inl hb,λx d e=>?_,λp hp=>absurd (show p∈([]:List (Addr×Obj)) from hp) (by simp)⟩
  ·exact(I4.ok.exfs b hb) z
  ·exact(I4.ok.exf b hb).2 x d e
 have loop:codeAny (model X.prog X.w) X.A (.compLoop (.ListComp elt [⟨tg,iter,ifs,0⟩] scope pos) 0 (.ref it) (.ref s2.heap.objs.size) XC.env) (RR (.ref s2.heap.objs.size) s3.heap.objs.size)
   {s3 with heap:=h1,toks:=s3.toks+([]:List (Str×Value)).length}:=by
  refine codeAny_loop rfl (λn s'=>∃i aC H',Inv XC [] aC H' s'/\tn i s'.heap/\(∀b∈fp,H' b=none)/\W i n aC H') (λn s' hI=>?_) m0 ⟨0,_,_,I4,KO,λb hb=>(f3 b hb).1,w0⟩;obtain⟨i,aC,H',I5,uD,xG,w5⟩:=hI;show wpAny _ X.A ((compTurn (.ListComp elt [⟨tg,iter,ifs,0⟩] scope pos) 0 (.ref it) (.ref s2.heap.objs.size) XC.env).onRaise (λx=>do noteFrame x XC.env;theTreesLotGoes x)) _ _ s'
  refine wpAny_noted ?_;rw[compTurn_list]
  have jE:∀{α:Type}{t:Sem α}{Q:α->Shared->Prop}{E:Value->Shared->Prop}{s:Shared},wpAny (model XC.prog XC.w) XC.A t Q XC.xe s->wpAny (model X.prog X.w) X.A t Q E s:=λ {α t Q E s} h=>by
   subst hX;exact wpAny_mono h (λ_ _ q=>q) λ_ _ f=>f.elim
  have Gg:XC.calm=true:=by subst hX;exact hc
  have eP:XC.prog=X.prog:=by subst hX;rfl
  have ew:XC.w=X.w:=by subst hX;rfl
  have eK:XC.K=X.K:=by subst hX;rfl
  have eA:XC.A=X.A:=by subst hX;rfl
  have QH:PG XC tg g:=by subst hX;exact hg _ _
  have QW:mM XC ifs tt:=hX▸ht _ _;have QC:PE XC elt te:=hX▸he _ _;refine wpAny_bind (wpAny_standAt (wpAny_bind ?_))
  rcases turn i n aC H' w5 with ⟨stop,qn⟩ | ⟨go,N,hN,step⟩
  ·have hd:=T.done XC eP ew eK Gg i [] s' aC H' (notedBy (model X.prog X.w) X.A XC.env λe s'=>RR (.ref s2.heap.objs.size) s3.heap.objs.size (.error e) s') I5 (stat xG) uD stop
   rw[eA] at hd;refine thn hd λr s6 bz=>?_;obtain⟨hr,I6⟩:=bz;subst hr;refine wpAny_pure ?_;subst hX;exact Qw _ s3 H3 aC H' s6 I3 f3 I6 qn
  ·have hd:=T.item XC eP ew eK Gg i [] s' aC H' (notedBy (model X.prog X.w) X.A XC.env λe s'=>RR (.ref s2.heap.objs.size) s3.heap.objs.size (.error e) s') I5 (stat xG) uD go
   rw[eA] at hd;refine thn hd λr s6 bz=>?_;rfl';obtain⟨u,hr,h6⟩:=bz;ac_rfl;subst hr;refine wpAny_bind (thn h6 λ_ s7 bz=>?_);rfl';obtain⟨x,H7,I7,r7,y7,wF,Iy⟩:=bz;ac_rfl;have Hs:=I7.pinned (stat Iy) (T.obj _ _ wF)
   have again:∀{gr:St}{H8:Hp}{s8:Shared},Inv XC ([]++lK fp s7.heap) gr H8 s8->N gr H8->∃m,m<n/\∃i aC H',Inv XC [] aC H' s8/\tn i s8.heap/\(∀b∈fp,H' b=none)/\W i m aC H':=λ {gr H8 s8} I8 n8=>by
    obtain⟨m',hm,w8⟩:=hN gr H8 n8;refine⟨m',hm,i+1,gr,H8,I8.i7,T.keep _ _ _ wF λb hb o e=>(I8.pin (b,o) (dQ _ (dQ _ (eO hb e)))).1,λb hb=>?_,w8⟩;obtain⟨o,e,d⟩:=T.obj _ _ wF b hb;exact(I8.pin (b,o) (dQ _ (dQ _ (eO hb e)))).2.1
   refine wpAny_bind (jE (thn (QH _ s7 aC H7 x u _ Hs r7 (step x H7 y7)) λ_ s8 bz=>?_));rfl';obtain⟨gr,H8,I8,q8⟩:=bz;ac_rfl;refine wpAny_bind (jE (thn (QW _ s8 gr H8 _ I8 q8) λb s9 bz=>?_));obtain⟨H9,I9,q9⟩:=bz;cases b with
   |false=>
    rw[if_neg cB] at q9;exact wpAny_pure ⟨hX▸rfl,again I9 q9⟩
   |true=>
    rw[if_pos rfl] at q9;refine wpAny_bind (wpAny_bind (jE (thn (QC _ s9 gr H9 _ I9 q9) λy M4 bz=>?_)));rfl';obtain⟨v,Lb,O1,RA,ys,hD,hz,Ry⟩:=bz;ac_rfl;refine wpAny_bind (jE (thn (jn _ M4 gr Lb (.ref s2.heap.objs.size) [v] _ [y] (λ_ H'=>N gr H') O1 rfl (.cons RA .nil) ⟨_,ys,v,rfl,rfl,hD,hz,Ry⟩) λ_ M5 bz=>?_));rfl';obtain⟨_,O0,Hr,_,Rz⟩:=bz;ac_rfl;exact wpAny_pure (wpAny_pure ⟨hX▸rfl,again Hr Rz⟩)
 subst hX;exact codeAny_compStart_list loop (T.self _ 0 _ _ _ KO loop)
theorem JY(hc:X.calm=true)(c:cE X scope)(fH:dR scope X.N src NC)(hi:PI X tg iter wi)
  (hg:∀ex s H,PG (dA X scope NC ex s H) tg g) (ht:∀ex s H,mM (dA X scope NC ex s H) ifs tt) (he:∀ex s H,PE (dA X scope NC ex s H) elt te)
  (hs:∀x,foldedSetIterable iter X.env x=pure x:=by intro _;rfl):PE X (.ListComp elt [⟨tg,iter,ifs,0⟩] scope pos) (Nj wi g tt te src):=by
 intro pins s σ H Q I h;rw[eval_ListComp];refine wpAny_comprehension_free (use:=none) rfl hs (gP (c.cells I.ok)) c.kind c.names (thn (hi pins s σ H _ I h) λv s1 h1=>thn h1 λxM s2 h2=>?_);rfl';obtain⟨it,fp,tn,J,H2,rfl,I2,T,iC,f2,hW⟩:=h2;ac_rfl;refine tL (RR:=λacc C=>compPost (model X.prog X.w) X.A X.xe none (EP X pins σ Q) acc C) (Q:=Q) hc c fH I2 T iC f2 (hg fp) (ht fp) (he fp) hW ?_;intro D s3 H3 aC H' s' I3 f3 J' q;obtain⟨m,hn,_⟩:=J'.loc;exact⟨m,hn,λh' sb=>⟨.ref D,H',comp_back I3 f3 J' sb,rfl,q⟩⟩
def Ni(wi:TI)(g:TG)(tt:TT)(te:TE)(src:List (Option Nat))(i:Nat):TS:=λD σ H=>Nj wi g tt te src σ H λv H'=>D.nx (σ.set i (some v)) H'
theorem yY{i:Nat}{x:Str}{px t9:Pos}(hc:X.calm=true)(hN:X.N.Nodup)(iP:X.N[i]? =some x)(hx:Loc X.env.scope x)(c:cE X scope)(fH:dR scope X.N src NC)(hi:PI X tg iter wi)
  (hg:∀ex s H,PG (dA X scope NC ex s H) tg g) (ht:∀ex s H,mM (dA X scope NC ex s H) ifs tt) (he:∀ex s H,PE (dA X scope NC ex s H) elt te)
  (j6:swapsWith (.ListComp elt [⟨tg,iter,ifs,0⟩] scope pos) (some (.Name x px)) t9.line X.env=pure true)
  (hf:X.fn x=true\/X.env.scope.names.lookup x=some .local:=by first|exact .inl rfl|exact .inr rfl|assumption)
  (hs:∀x,foldedSetIterable iter X.env x=pure x:=by intro _;rfl):PS X (.Assign [.Name x px] (.ListComp elt [⟨tg,iter,ifs,0⟩] scope pos) t9) (Ni wi g tt te src i):=by
 intro pins s σ H D I h;rw[exec_Assign_Name_used _ _ _ _ j6];refine wpAny_bind (wpAny_standAt (wpAny_bind ?_));show wpAny _ X.A (do let _ <-comprehension (.ListComp elt [⟨tg,iter,ifs,0⟩] scope pos) scope X.env _ (newList []) false (eval iter X.env) (some (assign (.Name x px) X.env))) _ _ s
 refine wpAny_bind (wpAny_mono (wpAny_comprehension_free (use:=some (assign (.Name x px) X.env)) (Q:=λ_ s'=>SP X pins D .next s') rfl hs (gP (c.cells I.ok)) c.kind c.names
  (thn (hi pins s σ H _ I h) λv s1 h1=>thn h1 λxM s2 h2=>?_)) (λ_ s' hq=>wpAny_pure (wpAny_pure hq)) λ_ _ e=>e)
 rfl';obtain⟨it,fp,tn,J,H2,rfl,I2,T,iC,f2,hW⟩:=h2;ac_rfl;refine tL (RR:=λacc C=>compPost (model X.prog X.w) X.A X.xe (some (assign (.Name x px) X.env)) (λ_ s'=>SP X pins D .next s') acc C) (Q:=λv H'=>D.nx (σ.set i (some v)) H') hc c fH I2 T iC f2 (hg fp) (ht fp) (he fp) hW ?_;intro a s3 H3 aC H' s' I3 f3 J' q;obtain⟨m,hn,_⟩:=J'.loc;have IX:Inv X pins σ H' s':=comp_back I3 f3 J' (.refl ..);have nL:s3.heap.objs.size≠X.env.locals:=Nat.ne_of_gt I3.lt
 have nc:∀y d,X.env.cells.lookup y=some d->d≠s3.heap.objs.size:=λy d e z=>by
  obtain⟨v,hv⟩:=I3.cell y d e
  have:=hv.lt
  rw[z] at this;exact absurd this (gI _)
 have np:∀p∈X.pn++pins,p.1≠s3.heap.objs.size:=λp hp z=>by
  have:=Heap.lt_size (I3.pin p hp).1
  rw[z] at this;exact absurd this (gI _)
 rfl';obtain⟨oC,es,ep,hoC,LM,rC⟩:=id hn;have VA:H' s3.heap.objs.size=none:=J'.free;ac_rfl
 have IP:Inv X ((s3.heap.objs.size,oC)::pins) σ H' s':=IX.rA λp hp=>by
  rcases cD.mp hp with z|z
  ·rw[z]
   exact⟨hoC,VA,nL,I3.OM (br _),λv w=>by rw[LM] at w;cases w⟩
  ·exact IX.pin p (dQ _ z)
 refine wpAny_assign_Name (kR (x:=x) IP hN iP hx (v:= .ref a) rfl (λs5 I5=>?_) hf);have hC5:=(I5.pin (s3.heap.objs.size,oC) (dQ _ cw)).1;refine⟨m,⟨oC,es,ep,hC5,LM,rC⟩,λh6 sb=>?_⟩;have O2:Inv X pins (σ.set i (some (.ref a))) H' s5:=I5.rA λp hp=>I5.pin p (dQ _ (b8 _ hp));exact⟨_,H',O2.turned (t':=s5.toks) (it:=s3.heap.objs.size) (λb o hb e=>sb.extBut b o hb e) VA nL (.inr I3.sz) nc np,q⟩
end
section
variable {X:Cx} {pins:List (Addr×Obj)} {σ:St} {H:Hp} {s:Shared} {h':Heap} {fp:List Addr}
theorem Inv.rV{t':Nat}(I:Inv X pins σ H s)(hf:∀b∈fp,fo X pins H b)(k:∀b o,b∉fp->s.heap.get? b=some o->h'.get? b=some o):Inv X pins σ H {s with heap:=h',toks:=t'}:=by
 refine I.step (g':=s.gens) (d':=s.drawn) (ch:=fp) (λb hb=>?_) (λb o _ _ hc e _=>k b o hc e) (λb o _ _ hc e _=>⟨o.slots,k b o hc e⟩) (λ_ _ _ _ n=>n)
  (λb o hc e=>⟨o,k b o hc e⟩) (λ_ _ e=>e) (λ_ _ _ e=>e) (λb ps e=>⟨#[],by rw[e];simp⟩) (λm hm=>?_) (λb u e=>?_) I.bare
 ·obtain⟨_,f1,_,f3,f4,f5⟩:=hf b hb
  exact⟨f3,f1,f4,f5⟩
 ·obtain⟨o,es,ep,ho,r⟩:=hm
  exact⟨o,es,ep,k _ o (λz=>(hf _ z).2.1 rfl) ho,r⟩
 ·have nf:∀b u,H b=some u->b∉fp:=λb u e z=>by rw[(hf b z).1] at e;cases e
  refine(I.hok b u e).rU (λc v hc q=>k c v ?_ q) (λ_ q=>q) λ_ _ q=>q
  rcases hc with z|z
  ·rw[z];exact nf b u e
  ·exact nf c _ z
theorem Inv.Cg{t':Nat}{t:Addr}{o:HO}(I:Inv X pins σ H s)(hf:∀b∈fp,fo X pins H b)(k:∀b o,b∉fp->s.heap.get? b=some o->h'.get? b=some o)(ht:s.heap.objs.size<=t)
  (new:cO X.prog X.w (upd H t o) h' t o):Inv X pins σ (upd H t o) {s with heap:=h',toks:=t'}:=by
 have nt:H t=none:=I.hok.fresh ht;have up:∀b u,H b=some u->upd H t o b=some u:=λb u e=>by rw[aw (aU e nt)];exact e
 refine I.step (g':=s.gens) (d':=s.drawn) (ch:=fp) (λb hb=>?_) (λb o _ _ hc e _=>k b o hc e) (λb o _ _ hc e _=>⟨o.slots,k b o hc e⟩) (λb o _ e n=>?_)
  (λb o hc e=>⟨o,k b o hc e⟩) (λb xs e=>up b _ e) (λb _ _ e=>up b _ e) (λb ps e=>⟨#[],by rw[up b _ e];simp⟩) (λm hm=>?_) (λb u e=>?_) I.bare
 ·obtain⟨_,f1,_,f3,f4,f5⟩:=hf b hb
  exact⟨f3,f1,f4,f5⟩
 ·rw[aw (cH (gK (Heap.lt_size e) ht))];exact n
 ·obtain⟨o,es,ep,ho,r⟩:=hm
  exact⟨o,es,ep,k _ o (λz=>(hf _ z).2.1 rfl) ho,r⟩
 ·by_cases hb:b=t
  ·subst hb
   rw[au] at e;cases Option.some.inj e;exact new
  ·rw[aw hb] at e
   have nf:∀b u,H b=some u->b∉fp:=λb u e z=>by rw[(hf b z).1] at e;cases e
   refine(I.hok b u e).rU (λc v hc q=>k c v ?_ q) (λb' q=>up b' _ q) λb' _ q=>up b' _ q
   rcases hc with z|z
   ·rw[z];exact nf b u e
   ·exact nf c _ z
end
def O3(K:PySem.W.Frag)(a:Addr):It:=
 ⟨λi H=>∃xs x,bX K H a xs/\xs[i]? =some x,λi H y H'=>∃t x,y= .ref t/\H t=none/\H'=upd H t (.tup [.int i,x])/\∀xs,bX K H a xs->xs[i]? =some x,λi H=>∃xs,bX K H a xs/\xs.length<=i⟩
theorem tU{h:Heap}{t:Addr}{u v:Value}(e:h.get? t=some {cls:= .type "tuple",data:= .seq #[u,v]}):IsTup h t [u,v].toArray:=⟨_,e,rfl,_,rfl⟩
theorem Eo{P:Program}{w:World}{K:PySem.W.Frag}{es:List Expr}{k1}{tp:Pos}(a e it:Addr)(ne:e≠it):
  Turn P w K (.Tuple es k1 tp) (O3 K a) [e,it] e (λi h=>(∃old,IsEnum h e it i old)/\h.IsListIter it a i) where
 mem:=by simp
 obj:=λi h st b hb=>by
  obtain⟨⟨old,he⟩,o,e2,c,d⟩:=st
  rcases cD.mp hb with z|z
  ·subst z
   exact⟨_,he,λv w=>by cases w⟩
  ·have z':b=it:=by simpa using z
   subst z';exact⟨o,e2,λv z=>by rw[d] at z;cases z⟩
 keep:=λi h h' st k=>by
  obtain⟨⟨old,he⟩,iC⟩:=st;exact⟨⟨old,k e (by simp) _ he⟩,iC.at λo q=>k it (by simp) o q⟩
 item:=by
  intro X hP hw hK hc i pins s σ H E I hf st hg;rfl';subst hP hw hK;obtain⟨xs,x,hq,hx⟩:=hg;obtain⟨its,rv,p,hz⟩:=I.list hq;obtain⟨u,hu,ru⟩:=rv.get hx;obtain⟨⟨old,he⟩,hit⟩:=st;ac_rfl;refine wpAny_pyNext_enum_item he hit p.isList (x:=u) (by simpa using hu) ne λh' C5 VP QV V7 kk=>?_
  have k2:∀b o,b∉ [e,it]->s.heap.get? b=some o->h'.get? b=some o:=λb o hb q=>kk b o (λz=>hb (by simp[z])) (λz=>hb (by simp[z])) q
  have I1:Inv X pins σ (upd H s.heap.objs.size (.tup [.int i,x])) {s with heap:=h',toks:=s.toks+1}:=
   I.Cg hf k2 (br _) ⟨by show 2<=sizeLine;decide,[.int i s.toks,u], .cons ⟨_,rfl⟩ (.cons ru .nil),tU QV⟩
  refine⟨_,rfl,wpAny_letOwnedTupleGo_enum C5 λh2 he2 sb=>?_⟩
  have lt:∀b∈ [e,it],b<s.heap.objs.size:=λb hb=>by
   rcases cD.mp hb with z|z
   ·rw[z];exact Heap.lt_size he
   ·obtain⟨o,e2,_⟩:=hit
    have z':b=it:=by simpa using z
    rw[z'];exact Heap.lt_size e2
  have IQ:∀b∈ [e,it],fo X pins (upd H s.heap.objs.size (.tup [.int i,x])) b:=λb hb=>⟨by rw[aw (cH (lt b hb))];exact(hf b hb).1,(hf b hb).2⟩
  refine⟨.ref s.heap.objs.size,_,I1.rV (t':=s.toks+1) IQ (λb o hb q=>sb.extBut b o (λz=>hb (by simp[z])) q),rfl,⟨_,x,rfl,I.hok.fresh (br _),rfl,λys hy=>by rw[I.yL hy hq];exact hx⟩,⟨⟨u,?_⟩,VP.extBut sb.extBut (Ne.symm ne)⟩,λb hb=>(IQ b hb).1⟩
  have z:((i+1:Nat):Int)=(i:Int)+1:=by omega
  rw[z];exact he2
 done:=by
  intro X hP hw hK hc i pins s σ H E I hf st hg;rfl';subst hP hw hK;obtain⟨xs,hq,hx⟩:=hg;obtain⟨its,rv,p,hz⟩:=I.list hq;have hl:=rv.length;obtain⟨⟨old,he⟩,hit⟩:=st;ac_rfl;exact wpAny_pyNext_enum_end (I.ok.hd hc) he hit p.isList (by simp;omega) λh' eb=>⟨rfl,I.rV (t':=s.toks) hf λb o hb q=>eb b o (λz=>hb (by simp[z])) q⟩
 self:=λ_ _ _ _ _ st h=>by
  obtain⟨⟨old,he⟩,_⟩:=st;exact wpAny_pyIter_enum he h
section
variable {X:Cx}
def Q2(K:PySem.W.Frag)(ta:TA):TI:=λσ H R=>ta σ H λvs H1=>∃a,vs= [.ref a]/\(∃xs,H1 a=some (.lst xs))/\R (O3 K a) H1
theorem J4{a:Expr}{ta:TA}{p pos:Pos}{es:List Expr}{k1}{tp:Pos}(hg:Gl X "enumerate")(hm:X.mg "enumerate"=none)(ha:PA X [a] ta)(hs:starEach [a] X.env= [(false,eval a X.env)]:=by rfl):
  PI X (.Tuple es k1 tp) (.Call (.Name "enumerate" p) [a] [] pos) (Q2 X.K ta):=by
 intro pins s σ H R I h;refine Call_ (hU I hg hm boot_enumerate (PyProof.Rows.callWith_type1 (thn (ha pos pins s σ H _ I h) λus s1 ⟨vs,H1,I1,r1,q1⟩=>?_) hs rfl));rfl';obtain⟨l,e,⟨xs,hl⟩,q⟩:=q1;subst e;obtain⟨u,rfl,ru⟩:=r1.one;subst ru;obtain⟨z,its,n,rv,hlen,e⟩:=I1.qT hl;ac_rfl;refine call_enumerate_1 e λh' he hit zX kk=>?_;refine wpAny_pyIter_enum he ?_;have sO:s1.heap.objs.size+1≠s1.heap.objs.size:=Nat.succ_ne_self _;refine⟨s1.heap.objs.size+1,[s1.heap.objs.size+1,s1.heap.objs.size],_,_,H1,rfl,I1.kept (t':=s1.toks) kk,Eo l _ _ sO,⟨⟨_,he⟩,hit⟩,λb hb=>?_,q⟩
 have sN:s1.heap.objs.size<=b:=by
  rcases cD.mp hb with z|z
  ·rw[z];exact pE _
  ·have z':b=s1.heap.objs.size:=by simpa using z
   rw[z'];exact br _
 exact I1.EU sN (I1.hok.fresh sN)
end
structure ZN (z TI TO i1 i2:Addr):Prop where
 TIz:TI≠z
 TOz:TO≠z
 i1z:i1≠z
 i2z:i2≠z
 TITO:TI≠TO
 TIi1:TI≠i1
 TIi2:TI≠i2
 TOi1:TO≠i1
 TOi2:TO≠i2
 i12:i1≠i2
section
variable {X:Cx}
end
end L2
namespace Wb
abbrev W:=List (List Nat)
def row(w:W)(p:Nat):List Nat:=w.getD p []
inductive Reach (w:W):Nat->Nat->Prop
 |refl (p):Reach w p p
 |step {p q r}:Reach w p q->r∈row w q->Reach w p r
structure Good (w:W):Prop where
 rng:∀p q,q∈row w p->q<w.length
 irr:∀p,p∉row w p
 nod:∀p,(row w p).Nodup
 sym:∀p q,q∈row w p->p∈row w q
 con:∀p,p<w.length->Reach w 0 p
theorem aQ{w:W}{p q:Nat}(h:q∈row w p):p<w.length:=by
 apply Classical.byContradiction;intro hn;unfold row at h;rw[bb,eQ (by omega)] at h
 simp at h
theorem BV{w:W}{p:Nat}(h:p<w.length):w[p]? =some (row w p):=by
 unfold row;rw[bb,bL h];rfl
theorem Fm{w:W}{p:Nat}{r:List Nat}(h:w[p]? =some r):row w p=r:=by
 unfold row;rw[bb,h];rfl
theorem wB{w:W}{p:Nat}(h:w.length<=p):row w p= []:=by
 unfold row;rw[bb,eQ h];rfl
theorem Reach.trans{w:W}{p q r:Nat}(h:Reach w p q)(h':Reach w q r):Reach w p r:=by
 induction h' with
 |refl=>exact h
 |step _ hr ih=>exact .step ih hr
theorem Reach.symm{w:W}(hs:∀p q,q∈row w p->p∈row w q){p q:Nat}(h:Reach w p q):Reach w q p:=by
 induction h with
 |refl=>exact .refl _
 |step _ hr ih=>exact(Reach.step (.refl _) (hs _ _ hr)).trans ih
theorem Reach.mono{w w':W}(hm:∀p q,q∈row w p->q∈row w' p){p q:Nat}(h:Reach w p q):Reach w' p q:=by
 induction h with
 |refl=>exact .refl _
 |step _ hr ih=>exact .step ih (hm _ _ hr)
def ins{α:Type}(xs:List α)(i:Nat)(x:α):List α:=xs.take i++x::xs.drop i
theorem sQ{α:Type}(xs:List α)(i:Nat)(x:α):(ins xs i x).Perm (x::xs):=by
 unfold ins;have h:= @List.perm_middle _ x (xs.take i) (xs.drop i);rw[zp] at h;exact h
theorem Jw{α:Type}{xs:List α}{i:Nat}{x a:α}:a∈ins xs i x↔a=x\/a∈xs:=by
 rw[(sQ xs i x).mem_iff,cD]
theorem DS{α:Type}{xs:List α}{i:Nat}{x:α}(h:xs.Nodup)(hx:x∉xs):(ins xs i x).Nodup:=by
 rw[(sQ xs i x).nodup_iff,eI];exact⟨hx,h⟩
theorem Bp{α:Type}(xs:List α)(i:Nat)(x:α):(ins xs i x).length=xs.length+1:=by
 rw[(sQ xs i x).length_eq];rfl
theorem good_ren{w w':W}{ord:Nat->Nat}(g:Good w)(hl:w'.length=w.length)(into:∀p,p<w.length->ord p<w.length)
  (inj:∀p q,p<w.length->q<w.length->ord p=ord q->p=q) (Hk:∀y,y<w.length->∃p,p<w.length/\ord p=y)
  (EX:∀p,p<w.length->(row w' (ord p)).Perm ((row w p).map ord)):Good w':=by
 have mem:∀p q,p<w.length->(q∈row w' (ord p)↔∃a,a∈row w p/\ord a=q):=λp q hp=>by
  rw[(EX p hp).mem_iff,dE]
 have reach:∀{p q},Reach w p q->Reach w' (ord p) (ord q):=λ {p q} h=>by
  induction h with
  |refl=>exact .refl _
  |step _ hr ih=>exact .step ih ((mem _ _ (aQ hr)).mpr ⟨_,hr,rfl⟩)
 refine⟨λy q hy=>?_,λy hy=>?_,λy=>?_,λy q hy=>?_,λy hy=>?_⟩
 ·obtain⟨p,hp,rfl⟩:=Hk y (by have:=aQ hy;omega)
  obtain⟨a,ha,rfl⟩:=(mem p q hp).mp hy;rw[hl];exact into a (g.rng _ _ ha)
 ·obtain⟨p,hp,rfl⟩:=Hk y (by have:=aQ hy;omega)
  obtain⟨a,ha,e⟩:=(mem p _ hp).mp hy
  have:=inj a p (g.rng _ _ ha) hp e
  subst this;exact g.irr _ ha
 ·by_cases hy:y<w.length
  ·obtain⟨p,hp,rfl⟩:=Hk y hy
   rw[(EX p hp).nodup_iff];unfold List.Nodup;rw[pC];refine List.Pairwise.imp_of_mem ?_ (g.nod p);intro a b ha hb ne e;exact ne (inj a b (g.rng _ _ ha) (g.rng _ _ hb) e)
  ·rw[wB (by omega)];exact iL
 ·obtain⟨p,hp,rfl⟩:=Hk y (by have:=aQ hy;omega)
  obtain⟨a,ha,rfl⟩:=(mem p q hp).mp hy;exact(mem a _ (g.rng _ _ ha)).mpr ⟨p,g.sym _ _ ha,rfl⟩
 ·rw[hl] at hy
  obtain⟨p,hp,rfl⟩:=Hk y hy;obtain⟨z,hz,e0⟩:=Hk 0 (by omega)
  have h1:=reach (((g.con z hz).symm g.sym).trans (g.con p hp));rw[e0] at h1;exact h1
def ar(l:List Nat)(x:Nat):Nat:=l.getD ((l.idxOf x+1)%l.length) 0
def bA(w:W)(d:Nat×Nat):Nat×Nat:=(d.2,ar (row w d.2) d.1)
def bo(w:W)(d:Nat×Nat):Prop:=d.2∈row w d.1
theorem lS{l:List Nat}{x:Nat}(h:x∈l):l[(l.idxOf x+1)%l.length]? =some (ar l x):=by
 have hp:0<l.length:=zo h;unfold ar;rw[bb,bL (uf _ hp)];rfl
theorem e7{l:List Nat}{x:Nat}(h:x∈l):ar l x∈l:=eS (lS h)
theorem Jx{a b n:Nat}(ha:a<n)(hb:b<n)(e:(a+1)%n=(b+1)%n):a=b:=by
 by_cases h1:a+1=n
 ·by_cases h2:b+1=n
  ·omega
  ·rw[h1,Nat.mod_self,r8 (by omega)] at e;omega
 ·by_cases h2:b+1=n
  ·rw[h2,Nat.mod_self,r8 (by omega)] at e;omega
  ·rw[r8 (by omega),r8 (by omega)] at e;omega
theorem lT{l:List Nat}{x y:Nat}(nd:l.Nodup)(hx:x∈l)(hy:y∈l)(e:ar l x=ar l y):x=y:=by
 have hp:0<l.length:=zo hx;have h1:=lS hx;have h2:=lS hy;rw[e] at h1;have lx:=xa.mpr hx;have ly:=xa.mpr hy;obtain⟨a1,b1⟩:=cT.mp h1;obtain⟨a2,b2⟩:=cT.mp h2;have q:=(List.getElem_inj nd).mp (b1.trans b2.symm);have q2:=Jx lx ly q;have e1:=AA lx;have e2:=AA ly;rw[<-e1,<-e2];simp only[q2]
theorem gm{w:W}{d:Nat×Nat}(g:Good w)(h:bo w d):bo w (bA w d):=e7 (g.sym _ _ h)
theorem JC{w:W}{d e:Nat×Nat}(g:Good w)(h:bo w d)(h':bo w e)(q:bA w d=bA w e):d=e:=by
 have e2:d.2=e.2:=congrArg Prod.fst q;have e1:ar (row w d.2) d.1=ar (row w e.2) e.1:=congrArg Prod.snd q;rw[<-e2] at e1;have h1:d.1∈row w d.2:=g.sym _ _ h;have h2:e.1∈row w d.2:=by rw[e2];exact g.sym _ _ h'
 exact Prod.ext (lT (g.nod _) h1 h2 e1) e2
def bf(w:W):List (Nat×Nat):=(List.range w.length).flatMap λp=>(row w p).map λq=>(p,q)
theorem b6{w:W}{d:Nat×Nat}:d∈bf w↔bo w d:=by
 unfold bf bo;rw[wW]
 constructor
 ·rintro⟨p,_,h⟩
  obtain⟨q,hq,rfl⟩:=dE.mp h;exact hq
 ·intro h
  exact⟨d.1,eJ.mpr (aQ h),dE.mpr ⟨d.2,h,rfl⟩⟩
theorem bg{α:Type} [DecidableEq α]:∀{l m:List α},l.Nodup->(∀x∈l,x∈m)->l.length<=m.length
 | [],_,_,_=>cI _
 |a::r,m,nd,h=>by
  have oQ:=eI.mp nd;have am:=h a cw;have ih:=bg (l:=r) (m:=m.erase a) oQ.2 λx hx=>(List.mem_erase_of_ne (λ(e:x=a)=>oQ.1 (by rw[<-e];exact hx))).mpr (h x (b8 _ hx))
  rw[List.length_erase_of_mem am] at ih
  have:=zo am
  simp only[dD];omega
theorem e9{w:W}(g:Good w)(p:Nat):(row w p).length<=w.length:=by
 have:=bg (m:=List.range w.length) (g.nod p) λx hx=>eJ.mpr (g.rng _ _ hx)
 simpa using this
theorem yr{α β:Type}{f:α->List β}{k:Nat}:∀{l:List α},(∀x∈l,(f x).length<=k)->(l.flatMap f).length<=l.length*k
 | [],_=>by simp
 |a::r,h=>by
  have ih:=yr (f:=f) (k:=k) (l:=r) λx hx=>h x (b8 _ hx)
  have:=h a cw
  rw[zt,dG,dD,Nat.succ_mul];omega
theorem vp{w:W}(g:Good w):(bf w).length<=w.length*w.length:=by
 have:=yr (f:=λp=>(row w p).map λq=>(p,q)) (k:=w.length) (l:=List.range w.length) λx _=>by rw[aI];exact e9 g x
 rw[kX] at this;exact this
def fO(w:W):Nat->Nat×Nat->Nat×Nat
 |0,d=>d
 |n+1,d=>bA w (fO w n d)
theorem iX{w:W}{d:Nat×Nat}(g:Good w)(h:bo w d):∀n,bo w (fO w n d)
 |0=>h
 |n+1=>gm g (iX g h n)
theorem vM{w:W}{d:Nat×Nat}(m:Nat):∀n,fO w (n+m) d=fO w n (fO w m d)
 |0=>by rw[Nat.zero_add];rfl
 |n+1=>by rw[Nat.succ_add];show bA w (fO w (n+m) d)=bA w (fO w n (fO w m d));rw[vM m n]
theorem Bt{w:W}{d e:Nat×Nat}(g:Good w)(h:bo w d)(h':bo w e):∀n,fO w n d=fO w n e->d=e
 |0,q=>q
 |n+1,q=>Bt g h h' n (JC g (iX g h n) (iX g h' n) q)
def walk(w:W)(d:Nat×Nat)(k:Nat):List (Nat×Nat):=(List.range k).map λi=>fO w i d
theorem Es(w:W)(d:Nat×Nat)(k:Nat):walk w d (k+1)=walk w d k++ [fO w k d]:=by
 unfold walk;rw[List.range_succ,fc];rfl
theorem zj(w:W)(d:Nat×Nat)(k:Nat):(walk w d k).length=k:=by unfold walk;simp
theorem wQ{w:W}{d:Nat×Nat}(g:Good w)(h:bo w d){k:Nat}:∀e∈walk w d k,bo w e:=λe he=>by
 obtain⟨i,_,rfl⟩:=dE.mp he;exact iX g h i
theorem ub{w:W}{d:Nat×Nat}(g:Good w)(h:bo w d){k:Nat}(hk:∀j,0<j->j<k->fO w j d≠d):(walk w d k).Nodup:=by
 unfold walk List.Nodup;rw[pC];refine List.Pairwise.imp_of_mem ?_ List.pairwise_lt_range;intro i j hi hj lt e;have LQ:=eJ.mp hj;have e2:fO w i d=fO w i (fO w (j-i) d):=by rw[<-vM (j-i) i,show i+(j-i)=j by omega];exact e
 exact hk (j-i) (by omega) (by omega) (Bt g h (iX g h _) i e2).symm
theorem K2{w:W}{d:Nat×Nat}(g:Good w)(h:bo w d){k:Nat}(hk:∀j,0<j->j<k->fO w j d≠d):k<=(bf w).length:=by
 have:=bg (m:=bf w) (ub g h hk) λe he=>b6.mpr (wQ g h e he)
 rwa [zj] at this
theorem AS{w:W}(g:Good w){S:Nat->Prop}(h0:S 0)(hc:∀p q,S p->q∈row w p->S q):∀p,p<w.length->S p:=λp hp=>by
 have:∀{a b},Reach w a b->S a->S b:=λ {a b} h ha=>by
  induction h with
  |refl=>exact ha
  |step _ hr ih=>exact hc _ _ ih hr
 exact this (g.con p hp) h0
def lexLe(a b:Nat×Nat):Prop:=a.1<b.1\/(a.1=b.1/\a.2<=b.2)
theorem yI{a b:Nat×Nat}(h:lexLe a b)(h':lexLe b a):a=b:=by
 unfold lexLe at h h';exact Prod.ext (by omega) (by omega)
def iS(rows:Nat->List Nat)(n:Nat):List (Nat×Nat):=(List.range n).flatMap λp=>((rows p).filter λq=>decide (p<q)).map λq=>(p,q)
theorem nq{α β:Type}{R:β->β->Prop}{f:α->List β}:∀{l:List α},(∀x∈l,(f x).Pairwise R)->l.Pairwise (λa b=>∀x∈f a,∀y∈f b,R x y)->(l.flatMap f).Pairwise R
 | [],_,_=>List.Pairwise.nil
 |a::r,h,p=>by
  have p':=List.pairwise_cons.mp p;rw[zt,List.pairwise_append];refine⟨h a cw,nq (λx hx=>h x (b8 _ hx)) p'.2,λx hx y hy=>?_⟩;obtain⟨b,hb,zZ⟩:=wW.mp hy;exact p'.1 b hb x hx y zZ
end Wb
namespace L2
open PySem PySem.Spec PyProof.Rows
section
variable {X:Cx}
theorem Vals.ins{x:V}{u:Value}(r:RelV x u){xs:List V}{us:List Value}(i:Nat)(h:Vals xs us):Vals (Wb.ins xs i x) (Wb.ins us i u):=(h.take i).append (.cons r (h.drop i))
def Kj:V->List V->Hp->VK->Prop:=λx vs H Q=>∃l xs i y,x= .ref l/\vs= [.int i,y]/\H l=some (.lst xs)/\0<=i/\i<=xs.length/\xs.length<sizeLine/\Q .aZ (upd H l (.lst (Wb.ins xs i.toNat y)))
theorem DQ:Hv X "list.insert" Kj:=by
 intro pins s σ H x vs v us Q I rx rv h;rfl';obtain⟨l,xs,i,y,rfl,rfl,hH,h0,h1,hz,q⟩:=h;subst rx;obtain⟨u1,u2,rfl,⟨t,rfl⟩,ru⟩:=rv.two;obtain⟨z,its,n,r,hl,e⟩:=I.qT hH;have dZ:=lF;ac_rfl
 have IS:¬(!Builtin.List.listFitsIndex i)=true:=by
  rw[fitsIndex_both (by omega) (by omega)]
  exact cB
 refine call_meets F.slot_list_insert ⟨_,e,rfl⟩ F.entry_list_insert (F.args_list_insert_3 _ _ _) (AutoSeq1.list_insert_list_int_val_1 l its.toArray n i t u2 IS (by rw[fe];omega)) ⟨e,?_⟩
 refine⟨.aZ,_,I.E5 (its':=Wb.ins its i.toNat u2) hH e ?_ (r.ins ru i.toNat) ?_,rfl,q⟩
 ·have hi:¬i<0:=by omega
  have hm:min i.toNat its.length=i.toNat:=by omega
  simp only[hi,if_false,fe,hm];apply Array.toList_inj.mp;unfold Wb.ins;simp;exact Fz (by rw[kY];omega)
 ·rw[Wb.Bp];omega
def MX(K:PySem.W.Frag):V->List V->Hp->VK->Prop:=λx vs H Q=>∃(l:Addr)(xs:List V)(y:V)(j:Nat)(z:V),x= .ref l/\vs= [y]/\H l=some (.lst xs)/\gx y=true/\xs.all gx=true/\xs[j]? =some z/\vy z y=true/\
 (∀(m:Nat) z,m<j->xs[m]? =some z->vy z y=false)/\Q (.int j) H
theorem GH:Hv X "list.index" (MX X.K):=by
 intro pins s σ H x vs v us Q I rx rv h;rfl';obtain⟨l,xs,y,j,z,rfl,rfl,hH,fy,fs,hz,ez,QR,q⟩:=h;subst rx;obtain⟨u,rfl,ru⟩:=rv.one;obtain⟨zX,its,n,r,hl,e⟩:=I.qT hH;obtain⟨w,hw,tF⟩:=r.get hz;ac_rfl
 have hj:j<its.toArray.size:=by
  obtain⟨h1,_⟩:=cT.mp hw;simpa using h1
 have flat:∀(m:Nat) z,xs[m]? =some z->gx z=true:=λm z h=>(jZ.mp fs) z (eS h)
 have hwj:its.toArray[j]=w:=by
  obtain⟨h1,h2⟩:=cT.mp hw;simpa using h2
 have dZ:=lF
 have LQ:j<xs.length:=by
  obtain⟨h1,_⟩:=cT.mp hz;exact h1
 refine call_meets F.slot_list_index ⟨_,e,rfl⟩ F.entry_list_index (F.args_list_index_2 _ _) (SeqAt.list_indexAt l its.toArray n none #[] u (oO y) j hj (by omega) ?_ ?_) ⟨e,λw hw=>iY ru fy r fs w (by simpa using hw),?_⟩
 ·rw[hwj,uP tF (flat j z hz)];exact ez
 ·intro m hm QO
  have mI:m<its.length:=by simpa using hm
  obtain⟨zm,Q1⟩:∃zm,xs[m]? =some zm:=⟨_,bL (by omega)⟩
  obtain⟨wm,hwm,rwm⟩:=r.get Q1
  have ewm:its.toArray[m]=wm:=by
   obtain⟨h1,h2⟩:=cT.mp hwm;simpa using h2
  rw[ewm,uP rwm (flat m zm Q1)];exact QR m zm QO Q1
 ·exact⟨.int j,H,I.tok _,⟨_,rfl⟩,q⟩
end
mutual
inductive Dp (K:PySem.W.Frag) (H:Hp):V->PyData->Prop
 |aZ:Dp K H .aZ .none
 |bl (b:Bool):Dp K H (.bl b) (.bool b)
 |int (i:Int):Dp K H (.int i) (.int i)
 |str (x:Str) (h:PyData.strOk x=true):Dp K H (.str x) (.str x)
 |lst {a:Addr} {xs:List V} {ds:List PyData}:bX K H a xs->ie K H xs ds->Dp K H (.ref a) (.list ds)
 |tup {a:Addr} {xs:List V} {ds:List PyData}:eB K H a xs->ie K H xs ds->Dp K H (.ref a) (.tuple ds)
inductive ie (K:PySem.W.Frag) (H:Hp):List V->List PyData->Prop
 |nil:ie K H [] []
 |cons {v:V} {vs:List V} {d:PyData} {ds:List PyData}:Dp K H v d->ie K H vs ds->ie K H (v::vs) (d::ds)
end
section
variable {X:Cx} {pins:List (Addr×Obj)} {σ:St} {H:Hp} {s:Shared}
mutual
theorem Dp.reads(I:Inv X pins σ H s):∀{v:V}{d:PyData}{u:Value},Dp X.K H v d->RelV v u->(∃as,Reads s.heap u d as)/\d.canLay0=true
 |_,_,_, .aZ,r=>by cases r;exact⟨⟨_, .none⟩,rfl⟩
 |_,_,_, .bl b,r=>by cases r;exact⟨⟨_, .bool b⟩,rfl⟩
 |_,_,_, .int i,r=>by obtain⟨t,rfl⟩:=r;exact⟨⟨_, .int i t⟩,rfl⟩
 |_,_,_, .str x h,r=>by obtain⟨t,rfl⟩:=r;exact⟨⟨_, .str x t⟩,by simpa [PyData.canLay0] using h⟩
 |_,_,_, .lst h a,r=>by
  cases r;obtain⟨its,rv,pl,hz⟩:=I.list h;obtain⟨⟨as,ra⟩,c⟩:=ie.reads I a rv;obtain⟨o,ho,hc,n,hd⟩:=pl.isList;exact⟨⟨_, .list ho hc hd (by simpa using ra)⟩,by simpa [PyData.canLay0] using c⟩
 |_,_,_, .tup h a,r=>by
  cases r;obtain⟨its,rv,pl,hz⟩:=I.tuple h;obtain⟨⟨as,ra⟩,c⟩:=ie.reads I a rv;obtain⟨o,ho,hc,n,hd⟩:=pl;exact⟨⟨_, .tuple ho hc hd (by simpa using ra)⟩,by simpa [PyData.canLay0] using c⟩
theorem ie.reads(I:Inv X pins σ H s):∀{vs:List V}{ds:List PyData}{us:List Value},ie X.K H vs ds->Vals vs us->(∃as,ReadsAll s.heap us ds as)/\PyData.canLayAll0 ds=true
 |_,_,_, .nil, .nil=>⟨⟨_, .nil⟩,by simp[PyData.canLayAll0]⟩
 |_,_,_, .cons a as, .cons r rs=>by
  obtain⟨⟨x,h1⟩,c1⟩:=Dp.reads I a r;obtain⟨⟨y,h2⟩,c2⟩:=ie.reads I as rs;exact⟨⟨_, .cons h1 h2⟩,by simp[PyData.canLayAll0,c1,c2]⟩
end
end
section
variable {X:Cx}
def Zc(K:PySem.W.Frag):R2:=λx y H Q=>∃d e,Dp K H x d/\Dp K H y e/\d.depth<=64/\Q (.bl (PyData.eqv d e)) H
def Zf(K:PySem.W.Frag):R2:=λx y H Q=>∃d e,Dp K H x d/\Dp K H y e/\d.depth<=64/\Q (.bl (!PyData.eqv d e)) H
theorem Mu(hu:X.A.units+64<cLine):OpR X (compareOp .Eq) (Zc X.K):=by
 intro pins s σ H x y v u Q I rx ry h;rfl';obtain⟨d,e,hd,he,hz,q⟩:=h;obtain⟨⟨as,r1⟩,c1⟩:=hd.reads I rx;obtain⟨⟨bs,r2⟩,c2⟩:=he.reads I ry;ac_rfl;exact SeqAt.compareEq_reads r1 r2 c1 c2 (by have:=Nat.min_le_left d.depth e.depth;omega) ⟨.bl _,H,I,rfl,q⟩
theorem Mz(hu:X.A.units+64<cLine):OpR X (compareOp .NotEq) (Zf X.K):=by
 intro pins s σ H x y v u Q I rx ry h;rfl';obtain⟨d,e,hd,he,hz,q⟩:=h;obtain⟨⟨as,r1⟩,c1⟩:=hd.reads I rx;obtain⟨⟨bs,r2⟩,c2⟩:=he.reads I ry;ac_rfl;exact SeqAt.compareNe_reads r1 r2 c1 c2 (by have:=Nat.min_le_left d.depth e.depth;omega) ⟨.bl _,H,I,rfl,q⟩
end
def nD(n:Nat):PyData:= .int n
end L2
namespace L2
open PySem PySem.Spec PyProof.Rows
theorem Vals.of_get:∀{xs:List V}{us:List Value},xs.length=us.length->(∀(k:Nat) x u,xs[k]? =some x->us[k]? =some u->RelV x u)->Vals xs us
 | [],[],_,_=> .nil
 | [],_::_,h,_=>by simp at h
 |_::_,[],h,_=>by simp at h
 |x::xs,u::us,h,r=> .cons (r 0 x u rfl rfl) (Vals.of_get (by simpa using h) λk y w h1 h2=>r (k+1) y w (by simpa using h1) (by simpa using h2))
section
variable {X:Cx}
theorem zB:cU X (.builtin "isinstance") (λxs H Q=>∃(x:V)(n:String)(t:Value)(b:Bool),xs= [x, .ty n]/\jF X.K H x t/\PySem.W.kitOne X.K t (.type n)=some b/\Q (.bl b) H):=by
 intro pins s σ H xs us Q I rv h;rfl';obtain⟨x,n,t,b,rfl,ty,e,q⟩:=h;obtain⟨u1,u2,rfl,r1,r2⟩:=rv.two;subst r2;ac_rfl;exact Dr I r1 ty e λtk=>⟨.bl b,H,I.tok _,rfl,q⟩
end
theorem vn(elt t0 i0 t1 i1:Expr)(f0 f1:List Expr)(scope:Scope)(pos:Pos)(it acc:Value)(env:Env):
  compTurn (.ListComp elt [⟨t0,i0,f0,0⟩,⟨t1,i1,f1,0⟩] scope pos) 0 it acc env=(do
   standAt i0.pos
   match <-pyNext it with
   |none=>pure (.done .next)
   |some v=>
    letOwnedTupleGo t0 it v
    assign t0 env v
    let ok <-forIn f0 true λc r=>if r=true then do let ok <-isTrue c env (eval c env);pure (ForInStep.yield ok) else pure (ForInStep.yield r)
    if ok=true then
     let x <-eval i1 env
     standAt i1.pos
     let x <-foldedSetIterable i1 env x
     let Jf <-holding [x] (pyIter x)
     let _ <-runOwn (.compStart (.ListComp elt [⟨t0,i0,f0,0⟩,⟨t1,i1,f1,0⟩] scope pos) 1 Jf acc env) env
     again (.compLoop (.ListComp elt [⟨t0,i0,f0,0⟩,⟨t1,i1,f1,0⟩] scope pos) 0 it acc env)
    else again (.compLoop (.ListComp elt [⟨t0,i0,f0,0⟩,⟨t1,i1,f1,0⟩] scope pos) 0 it acc env)):=by rfl
theorem vo(elt t0 i0 t1 i1:Expr)(f0 f1:List Expr)(scope:Scope)(pos:Pos)(it acc:Value)(env:Env):
  compTurn (.ListComp elt [⟨t0,i0,f0,0⟩,⟨t1,i1,f1,0⟩] scope pos) 1 it acc env=(do
   standAt i1.pos
   match <-pyNext it with
   |none=>pure (.done .next)
   |some v=>
    letOwnedTupleGo t1 it v
    assign t1 env v
    let ok <-forIn f1 true λc r=>if r=true then do let ok <-isTrue c env (eval c env);pure (ForInStep.yield ok) else pure (ForInStep.yield r)
    if ok=true then
     (do let _ <-call (.builtin "list.append") [acc,<-eval elt env])
     again (.compLoop (.ListComp elt [⟨t0,i0,f0,0⟩,⟨t1,i1,f1,0⟩] scope pos) 1 it acc env)
    else again (.compLoop (.ListComp elt [⟨t0,i0,f0,0⟩,⟨t1,i1,f1,0⟩] scope pos) 1 it acc env)):=by rfl
section
variable {X XC:Cx} {elt i0 t0 i1 t1:Expr} {f0 f1:List Expr} {scope:Scope} {pos:Pos} {wi gh:TI} {g g1:TG} {tt dP:TT} {te:TE} {src:List (Option Nat)} {NC:List Str}
theorem um{it acc:Value}{env:Env}{R:Result->Shared->Prop}{s:Shared}{A:Around}
  (h0:codeAny (model X.prog X.w) A (.compLoop (.ListComp elt [⟨t0,i0,f0,0⟩,⟨t1,i1,f1,0⟩] scope pos) 1 it acc env) R s)
  (hp:∀(Q:Value->Shared->Prop)(E:Value->Shared->Prop),Q it s->wpAny (model X.prog X.w) A (pyIter it) Q E s):
  codeAny (model X.prog X.w) A (.compStart (.ListComp elt [⟨t0,i0,f0,0⟩,⟨t1,i1,f1,0⟩] scope pos) 1 it acc env) R s:=by
 refine codeAny_of_tree ?_;refine wpAny_notedAt ?_;unfold compStart;refine wpAny_bind (wpAny_askSetting (wpAny_ite ?_))
 split
 ·first
   |exact wpAny_bind (wpAny_pure (wpAny_pure ⟨rfl,h0⟩))
   |exact wpAny_pure ⟨rfl,h0⟩
 ·refine wpAny_bind (wpAny_rule ?_)
  exact wpAny_bind (wpAny_standAt (wpAny_bind (hp _ _ (wpAny_pure ⟨rfl,h0⟩))))
theorem AU{pins:List (Addr×Obj)}{s:Shared}{σ:St}{H:Hp}{it D:Addr}{fp:List Addr}{tn:Nat->Heap->Prop}{J:It}{R:Result->Shared->Prop}{N:St->Hp->Prop}
  (LX:XC.xe=λ_ _=>False) (hc:XC.calm=true) (I:Inv XC pins σ H s) (T:Turn XC.prog XC.w XC.K t1 J fp it tn) (st:tn 0 s.heap) (f2:∀b∈fp,fo XC pins H b)
  (hg:PG XC t1 g1) (ht:mM XC f1 dP) (he:PE XC elt te)
  (hW:∃W:Nat->Nat->St->Hp->Prop,(∃m,W 0 m σ H)/\∀i m fF H2,W i m fF H2->(J.stop i H2/\N fF H2)\/
   (J.go i H2/\∃N1:St->Hp->Prop,(∀aC H',N1 aC H'->∃m',m'<m/\W (i+1) m' aC H')/\∀x H3,J.yld i H2 x H3->g1 x fF H3 λfG H4=>dP fG H4 λb H5=>
    if b=true then te fG H5 λv H6=>∃ys,H6 D=some (.lst ys)/\ys.length<sizeLine/\N1 fG (upd H6 D (.lst (ys++ [v]))) else N1 fG H5))
  (hR:∀aC H' s',Inv XC pins aC H' s'->N aC H'->R (.ok .next) s'):
  codeAny (model XC.prog XC.w) XC.A (.compStart (.ListComp elt [⟨t0,i0,f0,0⟩,⟨t1,i1,f1,0⟩] scope pos) 1 (.ref it) (.ref D) XC.env) R s:=by
 obtain⟨W,⟨m0,w0⟩,turn⟩:=hW
 have jE:∀{α:Type}{t:Sem α}{Q:α->Shared->Prop}{E:Value->Shared->Prop}{s:Shared},wpAny (model XC.prog XC.w) XC.A t Q XC.xe s->wpAny (model XC.prog XC.w) XC.A t Q E s:=λ {α t Q E s} h=>
  wpAny_mono h (λ_ _ q=>q) λ_ _ f=>by rw[LX] at f;exact f.elim
 have stat:∀{H':Hp},(∀b∈fp,H' b=none)->∀b∈fp,fo XC pins H' b:=λhn b hb=>⟨hn b hb,(f2 b hb).2⟩
 have loop:codeAny (model XC.prog XC.w) XC.A (.compLoop (.ListComp elt [⟨t0,i0,f0,0⟩,⟨t1,i1,f1,0⟩] scope pos) 1 (.ref it) (.ref D) XC.env) R s:=by
  refine codeAny_loop rfl (λn s'=>∃i aC H',Inv XC pins aC H' s'/\tn i s'.heap/\(∀b∈fp,H' b=none)/\W i n aC H') (λn s' hI=>?_) m0 ⟨0,σ,H,I,st,λb hb=>(f2 b hb).1,w0⟩;rfl';obtain⟨i,aC,H',I5,uD,xG,w5⟩:=hI;ac_rfl;show wpAny _ XC.A ((compTurn (.ListComp elt [⟨t0,i0,f0,0⟩,⟨t1,i1,f1,0⟩] scope pos) 1 (.ref it) (.ref D) XC.env).onRaise (λx=>do noteFrame x XC.env;theTreesLotGoes x)) _ _ s'
  refine wpAny_noted ?_;rw[vo];refine wpAny_bind (wpAny_standAt (wpAny_bind ?_))
  rcases turn i n aC H' w5 with ⟨stop,qn⟩ | ⟨go,N1,hN,step⟩
  ·refine thn (T.done XC rfl rfl rfl hc i pins s' aC H' _ I5 (stat xG) uD stop) λr s6 bz=>?_
   obtain⟨hr,I6⟩:=bz;subst hr;exact wpAny_pure (hR aC H' s6 I6 qn)
  ·refine thn (T.item XC rfl rfl rfl hc i pins s' aC H' _ I5 (stat xG) uD go) λr s6 bz=>?_
   rfl';obtain⟨u,hr,h6⟩:=bz;ac_rfl;subst hr;refine wpAny_bind (thn h6 λ_ s7 bz=>?_);rfl';obtain⟨x,H7,I7,r7,y7,wF,Iy⟩:=bz;ac_rfl;have Hs:=I7.pinned (stat Iy) (T.obj _ _ wF)
   have nextT:∀{gr:St}{H8:Hp}{s8:Shared},Inv XC (pins++lK fp s7.heap) gr H8 s8->N1 gr H8->∃m,m<n/\∃i aC H',Inv XC pins aC H' s8/\tn i s8.heap/\(∀b∈fp,H' b=none)/\W i m aC H':=λ {gr H8 s8} I8 n8=>by
    obtain⟨m',hm,w8⟩:=hN gr H8 n8;refine⟨m',hm,i+1,gr,H8,I8.i7,T.keep _ _ _ wF λb hb o e=>(I8.pin (b,o) (dQ _ (dQ _ (eO hb e)))).1,λb hb=>?_,w8⟩;obtain⟨o,e,d⟩:=T.obj _ _ wF b hb;exact(I8.pin (b,o) (dQ _ (dQ _ (eO hb e)))).2.1
   refine wpAny_bind (jE (thn (hg _ s7 aC H7 x u _ Hs r7 (step x H7 y7)) λ_ s8 bz=>?_));rfl';obtain⟨gr,H8,I8,q8⟩:=bz;ac_rfl;refine wpAny_bind (jE (thn (ht _ s8 gr H8 _ I8 q8) λb s9 bz=>?_));obtain⟨H9,I9,q9⟩:=bz;cases b with
   |false=>
    rw[if_neg cB] at q9;exact wpAny_pure ⟨rfl,nextT I9 q9⟩
   |true=>
    rw[if_pos rfl] at q9;refine wpAny_bind (wpAny_bind (jE (thn (he _ s9 gr H9 _ I9 q9) λy M4 bz=>?_)));rfl';obtain⟨v,Lb,O1,RA,ys,hD,hz,Ry⟩:=bz;ac_rfl;refine wpAny_bind (jE (thn (jn _ M4 gr Lb (.ref D) [v] _ [y] (λ_ H'=>N1 gr H') O1 rfl (.cons RA .nil) ⟨_,ys,v,rfl,rfl,hD,hz,Ry⟩) λ_ M5 bz=>?_));rfl';obtain⟨_,O0,Hr,_,Rz⟩:=bz;ac_rfl;exact wpAny_pure (wpAny_pure ⟨rfl,nextT Hr Rz⟩)
 exact um (X:=XC) loop λQ E q=>T.self _ 0 _ _ _ st q
def tIn(g1:TG)(dP:TT)(te:TE)(D:Addr)(J:It)(N:St->Hp->Prop):St->Hp->Prop:=λσ H=>
 ∃W:Nat->Nat->St->Hp->Prop,(∃m,W 0 m σ H)/\∀i m fF H2,W i m fF H2->(J.stop i H2/\N fF H2)\/
  (J.go i H2/\∃N1:St->Hp->Prop,(∀aC H',N1 aC H'->∃m',m'<m/\W (i+1) m' aC H')/\∀x H3,J.yld i H2 x H3->g1 x fF H3 λfG H4=>dP fG H4 λb H5=>
   if b=true then te fG H5 λv H6=>∃ys,H6 D=some (.lst ys)/\ys.length<sizeLine/\N1 fG (upd H6 D (.lst (ys++ [v]))) else N1 fG H5)
def OW(g:TG)(tt:TT)(gh:TI)(g1:TG)(dP:TT)(te:TE)(D:Addr)(J:It)(Q:VK)(σ:St)(H:Hp):Prop:=
 ∃W:Nat->Nat->St->Hp->Prop,(∃m,W 0 m σ H)/\∀i m fF H2,W i m fF H2->
  (J.stop i H2/\Q (.ref D) H2)\/
  (J.go i H2/\∃N:St->Hp->Prop,(∀aC H',N aC H'->∃m',m'<m/\W (i+1) m' aC H')/\∀x H3,J.yld i H2 x H3->g x fF H3 λfG H4=>tt fG H4 λb H5=>
   if b=true then gh fG H5 λJ1 H6=>tIn g1 dP te D J1 N fG H6 else N fG H5)
def OU(wi:TI)(g:TG)(tt:TT)(gh:TI)(g1:TG)(dP:TT)(te:TE)(src:List (Option Nat)):TE:=λσ H Q=>wi σ H λJ H1=>∀D,H1 D=none->OW g tt gh g1 dP te D J Q (mB src σ) (upd H1 D (.lst []))
theorem zE{pins:List (Addr×Obj)}{σ:St}{s2:Shared}{H2:Hp}{it:Addr}{fp:List Addr}{tn:Nat->Heap->Prop}{J:It}{RR:Value->Addr->Result->Shared->Prop}{E:Value->Shared->Prop}{Q:VK}
  (hc:X.calm=true) (c:cE X scope) (fH:dR scope X.N src NC) (I2:Inv X pins σ H2 s2) (T:Turn X.prog X.w X.K t0 J fp it tn) (iC:tn 0 s2.heap) (f2:∀b∈fp,fo X pins H2 b)
  (hg:∀ex s H,PG (dA X scope NC ex s H) t0 g) (ht:∀ex s H,mM (dA X scope NC ex s H) f0 tt) (pP:∀ex s H,PI (dA X scope NC ex s H) t1 i1 gh) (IT:∀ex s H,PG (dA X scope NC ex s H) t1 g1)
  (Ja:∀ex s H,mM (dA X scope NC ex s H) f1 dP) (he:∀ex s H,PE (dA X scope NC ex s H) elt te) (m8:∀env x,foldedSetIterable i1 env x=pure x)
  (hW:∀D,H2 D=none->OW g tt gh g1 dP te D J Q (mB src σ) (upd H2 D (.lst [])))
  (Qw:∀D s3 H3 aC H' s',Inv X pins σ H3 s3->(∀b∈fp,fo X pins H3 b)->Inv (dA X scope NC fp s3 H3) [] aC H' s'->Q (.ref D) H'->RR (.ref D) s3.heap.objs.size (.ok .next) s'):
  wpAny (model X.prog X.w) X.A (newList []) (λacc KQ=>wpAny (model X.prog X.w) X.A (newFunctionEnv scope X.env.globals (iE X.env scope.names []) [] X.env.qual none .none (some X.env)) (λmQ wL=>
   codeAny (model X.prog X.w) X.A (.compStart (.ListComp elt [⟨t0,i0,f0,0⟩,⟨t1,i1,f1,0⟩] scope pos) 0 (.ref it) acc {mQ with scope:=relabel scope X.env}) (RR acc mQ.locals) wL) E KQ) E s2:=by
 rfl';obtain⟨W,⟨m0,w0⟩,turn⟩:=hW s2.heap.objs.size I2.fresh;have I3:Inv X pins σ (upd H2 s2.heap.objs.size (.lst [])) {s2 with heap:=s2.heap.push {cls:= .type "list",data:= .seq ([]:List Value).toArray}}:=I2.E4 (its:= []) (t':=s2.toks) .nil (cI _)
 ac_rfl
 have By:∀b∈fp,b<s2.heap.objs.size:=λb hb=>by
  obtain⟨o,e,_⟩:=T.obj _ _ iC b hb;exact Heap.lt_size e
 have f3:∀b∈fp,fo X pins (upd H2 s2.heap.objs.size (.lst [])) b:=λb hb=>⟨by rw[aw (cH (By b hb))];exact(f2 b hb).1,(f2 b hb).2⟩
 refine wpAny_newObj_type ?_
 suffices key:∀s3:Shared,Inv X pins σ (upd H2 s2.heap.objs.size (.lst [])) s3->(∀b o,s2.heap.get? b=some o->s3.heap.get? b=some o)->
   wpAny (model X.prog X.w) X.A (newFunctionEnv scope X.env.globals (iE X.env scope.names []) [] X.env.qual none .none (some X.env)) (λmQ wL=>
    codeAny (model X.prog X.w) X.A (.compStart (.ListComp elt [⟨t0,i0,f0,0⟩,⟨t1,i1,f1,0⟩] scope pos) 0 (.ref it) (.ref s2.heap.objs.size) {mQ with scope:=relabel scope X.env}) (RR (.ref s2.heap.objs.size) mQ.locals) wL) E s3 from
  key _ I3 λb o e=>Heap.get?_push_of_some _ e
 intro s3 I3 RZ;have Ca:tn 0 s3.heap:=T.keep _ _ _ iC λb _ o e=>RZ b o e
 have DL:∀b∈fp,b<s3.heap.objs.size:=λb hb=>by
  obtain⟨o,e,_⟩:=T.obj _ _ Ca b hb;exact Heap.lt_size e
 generalize hH3:upd H2 s2.heap.objs.size (.lst [])=H3 at I3 f3 w0;refine wpAny_newFunctionEnv c.nocell (by intro y hy;simp at hy) (λh1 Bj zW=>?_) c.kind
 have I4:=ye (src:=src) (NC:=NC) (ex:=fp) (tk:=s3.toks+([]:List (Str×Value)).length) I3 c fH f3 DL Bj zW;have KO:tn 0 h1:=T.keep _ _ _ Ca λb hb o e=>zW.extBut b o (cH (DL b hb)) (Heap.get?_push_of_some _ e);generalize hX:dA X scope NC fp s3 H3=XC at I4
 have stat:∀{H':Hp},(∀b∈fp,H' b=none)->∀b∈fp,fo XC [] H' b:=λ {H'} hn b hb=>by
  subst hX;refine⟨hn b hb,cH (DL b hb),λz=>?_, .inl hb,λx d e=>?_,λp hp=>absurd (show p∈([]:List (Addr×Obj)) from hp) (by simp)⟩
  ·exact(I4.ok.exfs b hb) z
  ·exact(I4.ok.exf b hb).2 x d e
 have Gg:XC.calm=true:=by subst hX;exact hc
 have eP:XC.prog=X.prog:=by subst hX;rfl
 have ew:XC.w=X.w:=by subst hX;rfl
 have eK:XC.K=X.K:=by subst hX;rfl
 have eA:XC.A=X.A:=by subst hX;rfl
 have LX:XC.xe=λ_ _=>False:=by subst hX;rfl
 have QH:PG XC t0 g:=by subst hX;exact hg _ _ _
 have QW:mM XC f0 tt:=hX▸ht _ _ _;have hiC:PI XC t1 i1 gh:=hX▸pP _ _ _;have VN:PG XC t1 g1:=hX▸IT _ _ _;have V8:mM XC f1 dP:=hX▸Ja _ _ _;have QC:PE XC elt te:=hX▸he _ _ _
 have jE:∀{α:Type}{t:Sem α}{Q:α->Shared->Prop}{E:Value->Shared->Prop}{s:Shared},wpAny (model XC.prog XC.w) XC.A t Q XC.xe s->wpAny (model X.prog X.w) X.A t Q E s:=λ {α t Q E s} h=>by
  rw[<-eP,<-ew,<-eA];exact wpAny_mono h (λ_ _ q=>q) λ_ _ f=>by rw[LX] at f;exact f.elim
 have loop:codeAny (model X.prog X.w) X.A (.compLoop (.ListComp elt [⟨t0,i0,f0,0⟩,⟨t1,i1,f1,0⟩] scope pos) 0 (.ref it) (.ref s2.heap.objs.size) XC.env) (RR (.ref s2.heap.objs.size) s3.heap.objs.size)
   {s3 with heap:=h1,toks:=s3.toks+([]:List (Str×Value)).length}:=by
  refine codeAny_loop rfl (λn s'=>∃i aC H',Inv XC [] aC H' s'/\tn i s'.heap/\(∀b∈fp,H' b=none)/\W i n aC H') (λn s' hI=>?_) m0 ⟨0,_,_,I4,KO,λb hb=>(f3 b hb).1,w0⟩;rfl';obtain⟨i,aC,H',I5,uD,xG,w5⟩:=hI;ac_rfl;show wpAny _ X.A ((compTurn (.ListComp elt [⟨t0,i0,f0,0⟩,⟨t1,i1,f1,0⟩] scope pos) 0 (.ref it) (.ref s2.heap.objs.size) XC.env).onRaise (λx=>do noteFrame x XC.env;theTreesLotGoes x)) _ _ s'
  refine wpAny_noted ?_;rw[vn];refine wpAny_bind (wpAny_standAt (wpAny_bind ?_))
  rcases turn i n aC H' w5 with ⟨stop,qn⟩ | ⟨go,N,hN,step⟩
  ·have hd:=T.done XC eP ew eK Gg i [] s' aC H' (notedBy (model X.prog X.w) X.A XC.env λe s'=>RR (.ref s2.heap.objs.size) s3.heap.objs.size (.error e) s') I5 (stat xG) uD stop
   rw[eA] at hd;refine thn hd λr s6 bz=>?_;obtain⟨hr,I6⟩:=bz;subst hr;refine wpAny_pure ?_;subst hX;exact Qw _ s3 _ aC H' s6 I3 f3 I6 qn
  ·have hd:=T.item XC eP ew eK Gg i [] s' aC H' (notedBy (model X.prog X.w) X.A XC.env λe s'=>RR (.ref s2.heap.objs.size) s3.heap.objs.size (.error e) s') I5 (stat xG) uD go
   rw[eA] at hd;refine thn hd λr s6 bz=>?_;obtain⟨u,hr,h6⟩:=bz;subst hr;refine wpAny_bind (thn h6 λ_ s7 bz=>?_);rfl';obtain⟨x,H7,I7,r7,y7,wF,Iy⟩:=bz;ac_rfl;have Hs:=I7.pinned (stat Iy) (T.obj _ _ wF)
   have nextT:∀{gr:St}{H8:Hp}{s8:Shared},Inv XC ([]++lK fp s7.heap) gr H8 s8->N gr H8->∃m,m<n/\∃i aC H',Inv XC [] aC H' s8/\tn i s8.heap/\(∀b∈fp,H' b=none)/\W i m aC H':=λ {gr H8 s8} I8 n8=>by
    obtain⟨m',hm,w8⟩:=hN gr H8 n8;refine⟨m',hm,i+1,gr,H8,I8.i7,T.keep _ _ _ wF λb hb o e=>(I8.pin (b,o) (dQ _ (dQ _ (eO hb e)))).1,λb hb=>?_,w8⟩;obtain⟨o,e,d⟩:=T.obj _ _ wF b hb;exact(I8.pin (b,o) (dQ _ (dQ _ (eO hb e)))).2.1
   refine wpAny_bind (jE (thn (QH _ s7 aC H7 x u _ Hs r7 (step x H7 y7)) λ_ s8 bz=>?_));rfl';obtain⟨gr,H8,I8,q8⟩:=bz;ac_rfl;refine wpAny_bind (jE (thn (QW _ s8 gr H8 _ I8 q8) λb s9 bz=>?_));obtain⟨H9,I9,q9⟩:=bz;cases b with
   |false=>
    rw[if_neg cB] at q9;exact wpAny_pure ⟨hX▸rfl,nextT I9 q9⟩
   |true=>
    rw[if_pos rfl] at q9;refine wpAny_bind (jE (thn (hiC _ s9 gr H9 _ I9 q9) λv1 M4 Qr=>?_));refine wpAny_bind (wpAny_standAt (wpAny_bind (wpAny_of_eq (m8 _ v1) (wpAny_bind (wpAny_holding (jE (thn Qr λxM M5 h11=>?_)))))));rfl';obtain⟨Jf,fp1,tn1,J1,O0,rfl,Hr,T1,Z2,f11,hin⟩:=h11;ac_rfl;refine wpAny_bind (wpAny_runOwn ?_);have tr:∀(cd:Code)(R:Result->Shared->Prop),codeAny (model XC.prog XC.w) XC.A cd R M5->codeAny (model X.prog X.w) X.A cd R M5:=λcd R h=>by rw[eP,ew,eA] at h;exact h
    exact tr _ _ (AU LX Gg Hr T1 Z2 f11 VN V8 QC hin λaC H' s' I12 n12=>wpAny_pure ⟨hX▸rfl,nextT I12 n12⟩)
 subst hX;exact codeAny_compStart_list loop (T.self _ 0 _ _ _ KO loop)
theorem MI(hc:X.calm=true)(c:cE X scope)(fH:dR scope X.N src NC)(hi:PI X t0 i0 wi)
  (hg:∀ex s H,PG (dA X scope NC ex s H) t0 g) (ht:∀ex s H,mM (dA X scope NC ex s H) f0 tt) (pP:∀ex s H,PI (dA X scope NC ex s H) t1 i1 gh) (IT:∀ex s H,PG (dA X scope NC ex s H) t1 g1)
  (Ja:∀ex s H,mM (dA X scope NC ex s H) f1 dP) (he:∀ex s H,PE (dA X scope NC ex s H) elt te)
  (hs:∀x,foldedSetIterable i0 X.env x=pure x:=by intro _;rfl) (m8:∀env x,foldedSetIterable i1 env x=pure x:=by intro _ _;rfl):
  PE X (.ListComp elt [⟨t0,i0,f0,0⟩,⟨t1,i1,f1,0⟩] scope pos) (OU wi g tt gh g1 dP te src):=by
 intro pins s σ H Q I h;rw[eval_ListComp];refine wpAny_comprehension_free (use:=none) rfl hs (gP (c.cells I.ok)) c.kind c.names (thn (hi pins s σ H _ I h) λv s1 h1=>thn h1 λxM s2 h2=>?_);obtain⟨it,fp,tn,J,H2,rfl,I2,T,iC,f2,hW⟩:=h2
 exact zE hc c fH I2 T iC f2 hg ht pP IT Ja he m8 hW λD s3 H3 aC H' s' I3 f3 I6 qn=>by
  obtain⟨m,hn,_⟩:=I6.loc;exact⟨m,hn,λh' sb=>⟨.ref D,H',comp_back I3 f3 I6 sb,rfl,qn⟩⟩
end
end L2
namespace KS
open PySem PySem.W PyProof.Rows
def ev{α:Type}(lt:Nat->Nat->Bool):KasT α->α
 | .ret a=>a
 | .ask i j k=>ev lt (k (lt i j))
theorem kD{α β:Type}(lt:Nat->Nat->Bool)(f:α->KasT β):∀t:KasT α,ev lt (t.bind f)=ev lt (f (ev lt t))
 | .ret _=>rfl
 | .ask i j k=>kD lt f (k (lt i j))
structure Ord (lt:Nat->Nat->Bool):Prop where
 irr:∀a,lt a a=false
 neg:∀a b c,lt a c=true->lt a b=true\/lt b c=true
 tr:∀a b c,lt a b=true->lt b c=true->lt a c=true
section
variable {lt:Nat->Nat->Bool} (O:Ord lt)
def Le(lt:Nat->Nat->Bool)(a b:Nat):Prop:=lt b a=false
include O
theorem Ord.as{a b:Nat}(h:lt a b=true):Le lt a b:=by
 unfold Le;cases q:lt b a with
 |false=>rfl
 |true=>have:=O.tr _ _ _ h q;rw[O.irr] at this;cases this
theorem Ord.fK{a b c:Nat}(h:Le lt a b)(h':Le lt b c):Le lt a c:=by
 unfold Le at*;cases q:lt c a with
 |false=>rfl
 |true=>rcases O.neg _ b _ q with z|z
        ·rw[h'] at z;cases z
        ·rw[h] at z;cases z
theorem Ord.rf(a:Nat):Le lt a a:=O.irr a
omit O
def P(p:Array Nat)(i:Nat):Nat:=p.getD i 0
theorem AE{p q:Array Nat}{i j:Nat}(h:p[i]? =q[j]?):P p i=P q j:=by unfold P;rw[uc,uc,h]
def sj(lt:Nat->Nat->Bool)(p:Array Nat)(k:Nat):Prop:=∀i j,i<=j->j<k->Le lt (P p i) (P p j)
def uY(lt:Nat->Nat->Bool)(p:Array Nat)(k:Nat):Prop:=∀i j,i<=j->j<k->Le lt (P p j) (P p i)
theorem sr{p:Array Nat}{i j:Nat}(hj:j<=p.size)(k:Nat):P (kas_rev p i j) k=if i<=k/\k<j then P p (i+j-1-k) else P p k:=by
 have e:=getElem?_mirror_all (xs:=p) (i:=i) hj k;unfold kas_rev
 split
 ·rename_i h;rw[if_pos h] at e;exact AE e
 ·rename_i h;rw[if_neg h] at e;exact AE e
theorem fD(p:Array Nat)(i j:Nat):(kas_rev p i j).Perm p:=mirror_perm _ _ _ _
theorem tD(p:Array Nat)(i j:Nat):(kas_rev p i j).size=p.size:=mirror_size _ _ _ _
include O
theorem HG{p:Array Nat}:sj lt p 1:=λi j h1 h2=>by
 have e:i=j:=by omega
 subst e;exact O.rf _
theorem zx{p:Array Nat}:∀(f n:Nat),1<=n->sj lt p n->sj lt p (ev lt (kas_asc p f n))/\n<=ev lt (kas_asc p f n)/\ev lt (kas_asc p f n)<=n+f/\
  (ev lt (kas_asc p f n)<n+f->lt (P p (ev lt (kas_asc p f n))) (P p (ev lt (kas_asc p f n)-1))=true)
 |0,n,h1,h=>⟨h,br _,br _,λz=>absurd z (gI _)⟩
 |f+1,n,h1,h=>by
  have e:ev lt (kas_asc p (f+1) n)=ev lt (if lt (P p n) (P p (n-1))=true then KasT.ret n else kas_asc p f (n+1)):=rfl;rw[e];cases c:lt (P p n) (P p (n-1)) with
  |true=>
   rw[if_pos rfl];exact⟨h,br _,by show n<=_;omega,λ_=>c⟩
  |false=>
   rw[if_neg cB]
   have up:sj lt p (n+1):=λi j h2 h3=>by
    by_cases hj:j<n
    ·exact h i j h2 hj
    ·by_cases hi:i=j
     ·subst hi;exact O.rf _
     ·have:j=n:=by omega
      subst this;exact O.fK (h i (j-1) (by omega) (by omega)) c
   obtain⟨a,b,d,e⟩:=zx f (n+1) (by omega) up
   exact⟨a,by omega,by omega,λz=>e (by omega)⟩
theorem uN:∀(f:Nat)(p:Array Nat)(n q:Nat),1<=n->q+1<=n->n+f<=p.size->uY lt p n->(∀i,n-(q+1)<=i->i<n->Le lt (P p i) (P p (n-1)))->
  ∃p' n' q',ev lt (kas_desc f p n q)=(p',n',q')/\p'.Perm p/\n<=n'/\n'<=n+f/\q'+1<=n'/\uY lt p' n'/\(∀i,n'-(q'+1)<=i->i<n'->Le lt (P p' i) (P p' (n'-1)))
 |0,p,n,q,h1,hq,hz,h,he=>⟨p,n,q,rfl, .refl _,br _,br _,hq,h,he⟩
 |f+1,p,n,q,h1,hq,hz,h,he=>by
  have e:ev lt (kas_desc (f+1) p n q)=ev lt (if lt (P p n) (P p (n-1))=true then(if q>0 then kas_desc f (kas_rev p (n-(q+1)) n) (n+1) 0 else kas_desc f p (n+1) 0)
    else KasT.ask (P p (n-1)) (P p n) λd=>if d=true then KasT.ret (p,n,q) else kas_desc f p (n+1) (q+1)):=rfl
  rw[e];cases c:lt (P p n) (P p (n-1)) with
  |true=>
   rw[if_pos rfl]
   have up:uY lt p (n+1):=λi j h2 h3=>by
    by_cases hj:j<n
    ·exact h i j h2 hj
    ·by_cases hi:i=j
     ·subst hi;exact O.rf _
     ·have:j=n:=by omega
      subst this;exact O.fK (O.as c) (h i (j-1) (by omega) (by omega))
   by_cases V5:q>0
   ·rw[if_pos V5]
    have hk:∀i,i<n+1->Le lt (P (kas_rev p (n-(q+1)) n) i) (P p i)/\Le lt (P p i) (P (kas_rev p (n-(q+1)) n) i):=λi hi=>by
     rw[sr (by omega)]
     split
     ·rename_i hh
      have a1:=he i hh.1 hh.2;have a2:=he (n-(q+1)+n-1-i) (by omega) (by omega)
      have b1:=h i (n-1) (by omega) (by omega)
      have b2:=h (n-(q+1)+n-1-i) (n-1) (by omega) (by omega)
      exact⟨O.fK a2 b1,O.fK a1 b2⟩
     ·exact⟨O.rf _,O.rf _⟩
    have RY:uY lt (kas_rev p (n-(q+1)) n) (n+1):=λi j h2 h3=>O.fK (hk j h3).1 (O.fK (up i j h2 h3) (hk i (by omega)).2)
    obtain⟨p',n',q',e',a,b,d,g,w,v⟩:=uN f (kas_rev p (n-(q+1)) n) (n+1) 0 (by omega) (by omega) (by rw[tD];omega) RY (λi h2 h3=>by
     have:i=n+1-1:=by omega
     rw[this];exact O.rf _)
    exact⟨p',n',q',e',a.trans (fD _ _ _),by omega,by omega,g,w,v⟩
   ·rw[if_neg V5]
    obtain⟨p',n',q',e',a,b,d,g,w,v⟩:=uN f p (n+1) 0 (by omega) (by omega) (by omega) up (λi h2 h3=>by
     have:i=n+1-1:=by omega
     rw[this];exact O.rf _)
    exact⟨p',n',q',e',a,by omega,by omega,g,w,v⟩
  |false=>
   rw[if_neg cB];have e2:ev lt (KasT.ask (P p (n-1)) (P p n) λd=>if d=true then KasT.ret (p,n,q) else kas_desc f p (n+1) (q+1))=ev lt (if lt (P p (n-1)) (P p n)=true then KasT.ret (p,n,q) else kas_desc f p (n+1) (q+1)):=rfl;rw[e2];cases c2:lt (P p (n-1)) (P p n) with
   |true=>
    rw[if_pos rfl];exact⟨p,n,q,rfl, .refl _,br _,by omega,hq,h,he⟩
   |false=>
    rw[if_neg cB]
    have up:uY lt p (n+1):=λi j h2 h3=>by
     by_cases hj:j<n
     ·exact h i j h2 hj
     ·by_cases hi:i=j
      ·subst hi;exact O.rf _
      ·have:j=n:=by omega
       subst this;exact O.fK c2 (h i (j-1) (by omega) (by omega))
    obtain⟨p',n',q',e',a,b,d,g,w,v⟩:=uN f p (n+1) (q+1) (by omega) (by omega) (by omega) up (λi h2 h3=>by
     show Le lt (P p i) (P p n)
     by_cases hi:i=n
     ·subst hi;exact O.rf _
     ·exact O.fK (he i (by omega) (by omega)) c)
    exact⟨p',n',q',e',a,by omega,by omega,g,w,v⟩
theorem Km{p:Array Nat}{n:Nat}(hz:n<=p.size)(h:uY lt p n):sj lt (kas_rev p 0 n) n:=λi j h2 h3=>by
 rw[sr hz,sr hz,if_pos ⟨cI _,by omega⟩,if_pos ⟨cI _,h3⟩]
 exact h _ _ (by omega) (by omega)
theorem Cd{p:Array Nat}{n nrem:Nat}(h1:1<=n)(hn:n<=nrem)(hz:nrem<=p.size)(h:uY lt p n):
  ∃m p',ev lt (kas_tail3 n nrem p)=(m,p')/\p'.Perm p/\1<=m/\m<=nrem/\sj lt p' m:=by
 unfold kas_tail3;rw[kD];obtain⟨a,b,c,_⟩:=zx O (p:=kas_rev p 0 n) (nrem-n) n h1 (Km O (by omega) h)
 exact⟨_,_,rfl,fD _ _ _,by omega,by omega,a⟩
theorem qx{p:Array Nat}{n nrem:Nat}(h1:1<=n)(hn:n<nrem)(hz:nrem<=p.size)(h:uY lt p (n+1)):
  ∃m p',ev lt (kas_descPart n nrem p)=(m,p')/\p'.Perm p/\1<=m/\m<=nrem/\sj lt p' m:=by
 unfold kas_descPart;rw[kD]
 obtain⟨p',n',q',e',a,b,d,g,w,v⟩:=uN O (nrem-(n+1)) p (n+1) 0 (by omega) (by omega) (by omega) h (λi h2 h3=>by
  have:i=n+1-1:=by omega
  rw[this];exact O.rf _)
 rw[e'];dsimp only;have Jc:p'.size=p.size:=a.size_eq
 by_cases hq:q'>0
 ·rw[if_pos hq]
  have hk:∀i,i<n'->Le lt (P (kas_rev p' (n'-(q'+1)) n') i) (P p' i)/\Le lt (P p' i) (P (kas_rev p' (n'-(q'+1)) n') i):=λi hi=>by
   rw[sr (by omega)]
   split
   ·rename_i hh
    have a1:=v i hh.1 hh.2;have a2:=v (n'-(q'+1)+n'-1-i) (by omega) (by omega)
    have b1:=w i (n'-1) (by omega) (by omega)
    have b2:=w (n'-(q'+1)+n'-1-i) (n'-1) (by omega) (by omega)
    exact⟨O.fK a2 b1,O.fK a1 b2⟩
   ·exact⟨O.rf _,O.rf _⟩
  have RY:uY lt (kas_rev p' (n'-(q'+1)) n') n':=λi j h2 h3=>O.fK (hk j h3).1 (O.fK (w i j h2 h3) (hk i (by omega)).2)
  obtain⟨m,p2,e2,a2,b2,c2,d2⟩:=Cd O (n:=n') (nrem:=nrem) (p:=kas_rev p' (n'-(q'+1)) n') (by omega) (by omega) (by rw[tD];omega) RY
  exact⟨m,p2,e2,a2.trans ((fD _ _ _).trans a),b2,c2,d2⟩
 ·rw[if_neg hq]
  rfl';obtain⟨m,p2,e2,a2,b2,c2,d2⟩:=Cd O (n:=n') (nrem:=nrem) (p:=p') (by omega) (by omega) (by omega) w
  ac_rfl;exact⟨m,p2,e2,a2.trans a,b2,c2,d2⟩
theorem FL{p:Array Nat}{nrem:Nat}(hn:1<=nrem)(hz:nrem<=p.size):∃m p',ev lt (kas_count nrem p)=(m,p')/\p'.Perm p/\1<=m/\m<=nrem/\sj lt p' m:=by
 unfold kas_count;rw[kD];rfl';obtain⟨a,b,c,d⟩:=zx O (p:=p) (nrem-1) 1 (br _) (HG O);ac_rfl;generalize ev lt (kas_asc p (nrem-1) 1)=n at a b c d
 by_cases VZ:n=nrem
 ·rw[if_pos (by simpa using VZ)]
  exact⟨_,_,rfl, .refl _,by omega,by omega,a⟩
 ·rw[if_neg (by simpa using VZ)]
  have dZ:=d (by omega)
  by_cases h2:n>1
  ·rw[if_pos h2]
   have e:ev lt (KasT.ask (P p 0) (P p (n-1)) λc=>if c=true then KasT.ret (n,p) else kas_descPart n nrem (kas_rev p 0 n))=ev lt (if lt (P p 0) (P p (n-1))=true then KasT.ret (n,p) else kas_descPart n nrem (kas_rev p 0 n)):=rfl;show ∃m p',ev lt (KasT.ask (P p 0) (P p (n-1)) λc=>if c=true then KasT.ret (n,p) else kas_descPart n nrem (kas_rev p 0 n))=(m,p')/\_;rw[e];cases hc:lt (P p 0) (P p (n-1)) with
   |true=>
    rw[if_pos rfl];exact⟨_,_,rfl, .refl _,by omega,by omega,a⟩
   |false=>
    rw[if_neg cB];have NB:∀i j,i<n->j<n->Le lt (P p i) (P p j):=λi j hi hj=>O.fK (a i (n-1) (by omega) (by omega)) (O.fK hc (a 0 j (by omega) hj))
    have ds:uY lt (kas_rev p 0 n) (n+1):=λi j h3 h4=>by
     rw[sr (by omega),sr (by omega)]
     by_cases hj:j<n
     ·rw[if_pos ⟨cI _,hj⟩,if_pos ⟨cI _,by omega⟩]
      exact NB _ _ (by omega) (by omega)
     ·have hjn:j=n:=by omega
      subst hjn;rw[if_neg (by omega)]
      by_cases hi:i<j
      ·rw[if_pos ⟨cI _,hi⟩]
       exact O.fK (O.as dZ) (NB _ _ (by omega) (by omega))
      ·rw[if_neg (by omega)]
       have:i=j:=by omega
       subst this;exact O.rf _
    rfl';obtain⟨m,p2,e2,a2,b2,c2,d2⟩:=qx O (n:=n) (nrem:=nrem) (p:=kas_rev p 0 n) (by omega) (by omega) (by rw[tD];omega) ds
    ac_rfl;exact⟨m,p2,e2,a2.trans (fD _ _ _),b2,c2,d2⟩
  ·rw[if_neg h2]
   have h1:n=1:=by omega
   subst h1
   have ds:uY lt p (1+1):=λi j h3 h4=>by
    by_cases hi:i=j
    ·subst hi;exact O.rf _
    ·have hj:j=1:=by omega
     have iP:i=0:=by omega
     subst hj iP;exact O.as dZ
   exact qx O (n:=1) (nrem:=nrem) (p:=p) (by omega) (by omega) hz ds
theorem tx{p:Array Nat}{k:Nat}(h:sj lt p k):∀(f l r:Nat),r<=l+f->l<=r->r<=k->(∀i,i<l->Le lt (P p i) (P p k))->(∀i,r<=i->i<k->lt (P p k) (P p i)=true)->
  ev lt (kas_place p k f l r)<=k/\(∀i,i<ev lt (kas_place p k f l r)->Le lt (P p i) (P p k))/\(∀i,ev lt (kas_place p k f l r)<=i->i<k->lt (P p k) (P p i)=true)
 |0,l,r,h1,h2,h3,h4,h5=>by
  have e:l=r:=by omega
  subst e;exact⟨h3,h4,h5⟩
 |f+1,l,r,h1,h2,h3,h4,h5=>by
  by_cases VW:l>=r
  ·have e:ev lt (kas_place p k (f+1) l r)=l:=by
    show ev lt (if l>=r then KasT.ret l else _)=l;rw[if_pos VW];rfl
   have e2:l=r:=by omega
   rw[e];subst e2;exact⟨h3,h4,h5⟩
  ·have e:ev lt (kas_place p k (f+1) l r)=ev lt (if lt (P p k) (P p ((l+r) / 2))=true then kas_place p k f l ((l+r) / 2) else kas_place p k f ((l+r) / 2+1) r):=by
    show ev lt (if l>=r then KasT.ret l else _)=_;rw[if_neg VW];rfl
   rw[e];cases c:lt (P p k) (P p ((l+r) / 2)) with
   |true=>
    rw[if_pos rfl];refine tx h f l ((l+r) / 2) (by omega) (by omega) (by omega) h4 λi hi hk=>?_
    rcases O.neg _ (P p i) _ c with z|z
    ·exact z
    ·have:=h ((l+r) / 2) i hi hk
     unfold Le at this;rw[this] at z;cases z
   |false=>
    rw[if_neg cB];exact tx h f ((l+r) / 2+1) r (by omega) (by omega) h3 (λi hi=>O.fK (h i ((l+r) / 2) (by omega) (by omega)) c) h5
theorem EJ:∀(f:Nat)(p:Array Nat)(k:Nat),k+f<=p.size->sj lt p k->∃p',ev lt (kas_bin f p k)=p'/\p'.Perm p/\sj lt p' (k+f)
 |0,p,k,_,h=>⟨p,rfl, .refl _,h⟩
 |f+1,p,k,hz,h=>by
  have e:ev lt (kas_bin (f+1) p k)=ev lt (kas_bin f (bubble p k (k-ev lt (kas_place p k k 0 k))) (k+1)):=by
   show ev lt ((kas_place p k k 0 k).bind λl=>kas_bin f (bubble p k (k-l)) (k+1))=_;rw[kD]
  rw[e];obtain⟨a,b,c⟩:=tx O h k 0 k (by omega) (cI _) (br _) (λi hi=>absurd hi (Nat.not_lt_zero _)) (λi h1 h2=>absurd h2 (by omega))
  generalize ev lt (kas_place p k k 0 k)=l at a b c
  have hb:∀x,P (bubble p k (k-l)) x=if x=l then P p k else if l<x/\x<=k then P p (x-1) else P p x:=λx=>by
   have q:=getElem?_bubble (xs:=p) (src:=k) (by omega) (k-l) (by omega) x
   have e1:k-(k-l)=l:=by omega
   rw[e1] at q
   split
   ·rename_i hh;rw[if_pos hh] at q;exact AE q
   ·rename_i hh
    rw[if_neg hh] at q
    split
    ·rename_i h2;rw[if_pos h2] at q;exact AE q
    ·rename_i h2;rw[if_neg h2] at q;exact AE q
  have up:sj lt (bubble p k (k-l)) (k+1):=λi j h1 h2=>by
   rw[hb,hb]
   by_cases e1:i=l
   ·rw[if_pos e1]
    by_cases e2:j=l
    ·rw[if_pos e2];exact O.rf _
    ·rw[if_neg e2,if_pos ⟨by omega,by omega⟩]
     exact O.as (c (j-1) (by omega) (by omega))
   ·rw[if_neg e1]
    by_cases e2:j=l
    ·rw[if_pos e2,if_neg (by omega)]
     exact b i (by omega)
    ·rw[if_neg e2]
     by_cases e3:l<i
     ·rw[if_pos ⟨e3,by omega⟩,if_pos ⟨by omega,by omega⟩]
      exact h _ _ (by omega) (by omega)
     ·rw[if_neg (by omega)]
      by_cases e4:l<j
      ·rw[if_pos ⟨e4,by omega⟩]
       exact h _ _ (by omega) (by omega)
      ·rw[if_neg (by omega)]
       exact h _ _ h1 (by omega)
  obtain⟨p',e',a',b'⟩:=EJ f (bubble p k (k-l)) (k+1) (by rw[bubble_size];omega) up
  exact⟨p',e',a'.trans (bubble_perm _ _ _),by rw[show k+(f+1)=k+1+f by omega];exact b'⟩
theorem B0{n:Nat}(hn:1<=n):∃p,ev lt (kas_sort n)=p/\p.toList.Perm (List.range n)/\p.toList.Pairwise (Le lt):=by
 have pw:∀p:Array Nat,p.size=n->sj lt p n->p.toList.Pairwise (Le lt):=λp hz h=>by
  rw[Ez];intro i j hi hj LP;have iP:i<p.size:=by simpa using hi
  have LQ:j<p.size:=by simpa using hj
  have q:=h i j (by omega) (by omega)
  unfold P at q;simpa [Array.getD,iP,LQ] using q
 unfold kas_sort;rw[kD];rfl';obtain⟨m,p',e',a,b,c,d⟩:=FL O (p:=List.toArray (List.range n)) hn (by simp)
 ac_rfl;rw[e'];dsimp only;have Jc:p'.size=n:=by rw[a.size_eq];simp
 have pl:p'.toList.Perm (List.range n):=by simpa using Ew.mp a
 by_cases hm:m<n
 ·rw[if_pos hm]
  obtain⟨p2,e2,a2,b2⟩:=EJ O (n-max m 1) p' (max m 1) (by omega) (by rw[show max m 1=m by omega];exact d)
  refine⟨p2,e2,(Ew.mp a2).trans pl,pw p2 (by rw[a2.size_eq,Jc]) ?_⟩
  rw[show max m 1+(n-max m 1)=n by omega] at b2
  exact b2
 ·rw[if_neg hm]
  have:m=n:=by omega
  subst this;exact⟨p',rfl,pl,pw p' Jc d⟩
end
def gi{α:Type}(n:Nat)(Q:α->Prop):KasT α->Prop
 | .ret a=>Q a
 | .ask i j k=>i<n/\j<n/\∀b,gi n Q (k b)
theorem gO{α:Type}{n:Nat}{Q Q':α->Prop}(h:∀a,Q a->Q' a):∀t:KasT α,gi n Q t->gi n Q' t
 | .ret a,z=>h a z
 | .ask _ _ k,z=>⟨z.1,z.2.1,λb=>gO h (k b) (z.2.2 b)⟩
theorem allI_bind{α β:Type}{n:Nat}{Q:β->Prop}{f:α->KasT β}:∀t:KasT α,gi n (λa=>gi n Q (f a)) t->gi n Q (t.bind f)
 | .ret _,z=>z
 | .ask _ _ k,z=>⟨z.1,z.2.1,λb=>allI_bind (k b) (z.2.2 b)⟩
def oM(n:Nat)(p:Array Nat):Prop:=0<n/\∀x∈p.toList,x<n
theorem oM.at{n:Nat}{p:Array Nat}(h:oM n p)(i:Nat):p.getD i 0<n:=by
 rw[uc];cases q:p[i]? with
 |none=>exact h.1
 |some x=>
  refine h.2 x ?_;rw[<-jX] at q;exact eS q
theorem oM.perm{n:Nat}{p q:Array Nat}(h:oM n p)(hp:q.Perm p):oM n q:=⟨h.1,λx hx=>h.2 x ((Ew.mp hp).mem_iff.mp hx)⟩
theorem vc{n:Nat}{p:Array Nat}(h:oM n p):∀f m,gi n (λ_=>True) (kas_asc p f m)
 |0,_=>trivial
 |f+1,m=>⟨h.at _,h.at _,λb=>by cases b with|true=>exact trivial|false=>exact vc h f (m+1)⟩
theorem oj{n:Nat}:∀(f:Nat)(p:Array Nat)(m q:Nat),oM n p->gi n (λr=>oM n r.1) (kas_desc f p m q)
 |0,p,m,q,h=>h
 |f+1,p,m,q,h=>⟨h.at _,h.at _,λb=>by
  cases b with
  |true=>
   show gi n _ (if q>0 then kas_desc f (kas_rev p (m-(q+1)) m) (m+1) 0 else kas_desc f p (m+1) 0)
   split
   ·exact oj f _ _ _ (h.perm (fD _ _ _))
   ·exact oj f _ _ _ h
  |false=>
   refine⟨h.at _,h.at _,λd=>?_⟩;cases d with
   |true=>exact h
   |false=>exact oj f _ _ _ h⟩
theorem zh{n:Nat}{p:Array Nat}(h:oM n p)(m nrem:Nat):gi n (λr=>oM n r.2) (kas_tail3 m nrem p):=
 allI_bind _ (gO (λ_ _=>h.perm (fD _ _ _)) _ (vc (h.perm (fD _ _ _)) _ _))
theorem oS{n:Nat}{p:Array Nat}(h:oM n p)(m nrem:Nat):gi n (λr=>oM n r.2) (kas_descPart m nrem p):=
 allI_bind _ (gO (λr hr=>by
  show gi n _ (if r.2.2>0 then _ else _)
  split
  ·exact zh (hr.perm (fD _ _ _)) _ _
  ·exact zh hr _ _) _ (oj _ _ _ _ h))
theorem CI{n:Nat}{p:Array Nat}(h:oM n p)(nrem:Nat):gi n (λr=>oM n r.2) (kas_count nrem p):=
 allI_bind _ (gO (λm _=>by
  show gi n _ (if (m==nrem)=true then _ else _)
  split
  ·exact h
  ·split
   ·refine⟨h.at _,h.at _,λb=>?_⟩
    cases b with
    |true=>exact h
    |false=>exact oS (h.perm (fD _ _ _)) _ _
   ·exact oS h _ _) _ (vc h _ _))
theorem qe{n:Nat}{p:Array Nat}(h:oM n p)(k:Nat):∀f l r,gi n (λ_=>True) (kas_place p k f l r)
 |0,_,_=>trivial
 |f+1,l,r=>by
  show gi n _ (if l>=r then _ else _)
  split
  ·exact trivial
  ·refine⟨h.at _,h.at _,λb=>?_⟩
   cases b with
   |true=>exact qe h k f _ _
   |false=>exact qe h k f _ _
theorem AM{n:Nat}:∀(f:Nat)(p:Array Nat)(k:Nat),oM n p->gi n (λ_=>True) (kas_bin f p k)
 |0,_,_,_=>trivial
 |f+1,p,k,h=>allI_bind _ (gO (λl _=>AM f _ _ (h.perm (bubble_perm _ _ _))) _ (qe h k _ _ _))
theorem zd{n:Nat}(hn:0<n):gi n (λ_=>True) (kas_sort n):=
 allI_bind _ (gO (λr hr=>by
  show gi n _ (if r.1<n then _ else _)
  split
  ·exact AM _ _ _ hr
  ·exact trivial) _ (CI (n:=n) (p:=List.toArray (List.range n)) ⟨hn,λx hx=>eJ.mp (by simpa using hx)⟩ n))
theorem Et{α:Type}{cmp:Nat->Nat->(Bool->Shared->Prop)->Shared->Prop}{lt:Nat->Nat->Bool}{s:Shared}{Q:α->Shared->Prop}{n:Nat}
  (hc:∀i j (C:Bool->Shared->Prop),i<n->j<n->C (lt i j) s->cmp i j C s):∀t:KasT α,gi n (λ_=>True) t->Q (ev lt t) s->t.kasWp cmp Q s
 | .ret _,_,h=>h
 | .ask i j k,z,h=>hc i j _ z.1 z.2.1 (Et hc (k (lt i j)) (z.2.2 _) h)
section
variable {prog:Program} {w:World} {A:Around} {E:Value->Shared->Prop} {s:Shared}
theorem B2{a:Addr}{vs:List Value}{n:Nat}{G:PySem.Fin->Shared->Prop}(ho:s.heap.get? a=some (seqObj "list" vs.toArray n))(h2:vs.length<2)
  (h:G (.done (.ret .none)) {s with heap:=sortedHeap s.heap a vs vs.toArray}):wpAny (model prog w) A (Builtin.«list.sort» ⟨[.ref a],[]⟩) G E s:=by
 rw[list_sort_plain];have la:a<s.heap.objs.size:=Heap.lt_size ho;refine wpAny_bind (listItems_at ho rfl (wpAny_bind (listUpdate_at ho rfl ?_)));obtain⟨e1,vG⟩:∃k,(s.heap.update a (Obj.mapSeq λ_=> #[])).get? a=some (seqObj "list" #[] k):=⟨_,get?_update_seq ho (λ_=> #[])⟩;refine wpAny_bind (seqEpoch_at vG rfl (wpAny_bind (wpAny_newTuple (wpAny_bind (wpAny_newList (wpAny_holding ?_))))));have V0:(((s.heap.update a (Obj.mapSeq λ_=> #[])).push (seqObj "tuple" vs.toArray 0)).push (seqObj "list" #[] 0)).get? a=some (seqObj "list" #[] e1):=Heap.get?_push_of_some _ (Heap.get?_push_of_some _ vG);show wpAny (model prog w) A _ G E {s with heap:=((s.heap.update a (Obj.mapSeq λ_=> #[])).push (seqObj "tuple" vs.toArray 0)).push (seqObj "list" #[] 0)}
 dsimp only;have lz:vs.toArray.size<2:=h2;rw[if_pos lz,if_pos lz];refine wpAny_bind (wpAny_pure ?_);rw[StateT.run_pure];refine wpAny_bind (wpAny_pure ?_);dsimp only
 have ez:(arrOf (SortSt.mk' general' (vs.toArray.zip vs.toArray) #[] 7 none)).map (·.2)=vs.toArray:=by
  show(vs.toArray.zip vs.toArray).map (·.2)=vs.toArray;apply Array.toList_inj.mp;simp[List.map_snd_zip]
 refine wpAny_bind (seqEpoch_at V0 rfl (wpAny_bind (listUpdate_at V0 rfl ?_ (hsz2:=by rw[ez];rw[sizeLine_eq];omega))))
 simp only[bne_self_eq_false,gL,if_false];have h':=h;unfold sortedHeap at h';rw[ez];exact wpAny_pure h'
theorem pj{l:Addr}{vs:List Value}{G:Value->Shared->Prop}(hl:s.heap.IsList l vs.toArray)(h2:vs.length<2)(h:G (.ref (s.heap.objs.size+1)) {s with heap:=sortedAll s.heap vs vs.toArray}):
  wpAny (model prog w) A (call (.builtin "sorted") [.ref l]) G E s:=by
 refine Calls.call_function_entry kind_sorted plain_sorted entry_sorted (args_sorted1 (.ref l)) ?_;unfold Builtin.«sorted»;have l2:vs.length<=sizeLine:=by rw[sizeLine_eq];omega
 refine wpAny_bind (m:=checkCount "sorted" 1 1 _) (wpAny_pure (wpAny_bind (collect_list hl (wpAny_bind (wpAny_newList ?_ l2)) l2)));have z1:((s.heap.push (seqObj "list" #[] 0)).update s.heap.objs.size (Obj.mapSeq (·++vs.toArray))).objs.size=s.heap.objs.size+1:=by rw[Heap.size_update,size_push']
 have z2:(((s.heap.push (seqObj "list" #[] 0)).update s.heap.objs.size (Obj.mapSeq (·++vs.toArray))).push (seqObj "list" vs.toArray 0)).get? (s.heap.objs.size+1)=some (seqObj "list" vs.toArray 0):=by
  rw[<-z1];exact Heap.get?_push_size _ rfl
 show wpAny (model prog w) _ _ _ E {s with heap:=((s.heap.push (seqObj "list" #[] 0)).update s.heap.objs.size (Obj.mapSeq (·++vs.toArray))).push (seqObj "list" vs.toArray 0)}
 rw[z1];exact wpAny_bind (wpAny_holding (wpAny_call_entry slot_list_sort ⟨_,z2,rfl⟩ entry_list_sort (B2 z2 h2 ⟨_,rfl,wpAny_pure ⟨_,rfl,h⟩⟩) (args_list_sort _)))
end
end KS
namespace L2
open PySem PySem.Spec PyProof.Rows
section
variable {X:Cx} {pins:List (Addr×Obj)} {σ:St} {H:Hp} {s:Shared} {h':Heap}
theorem Inv.Jl{t':Nat}{t:Addr}{o:HO}(I:Inv X pins σ H s)(k:∀b o,b≠X.env.locals->s.heap.get? b=some o->h'.get? b=some o)(ns:∀m,s.heap.Ns X.env.locals m->h'.Ns X.env.locals m)
  (ht:s.heap.get? t=none) (nt:H t=none) (new:cO X.prog X.w (upd H t o) h' t o):Inv X pins σ (upd H t o) {s with heap:=h',toks:=t'}:=by
 have up:∀b u,H b=some u->upd H t o b=some u:=λb u e=>by rw[aw (aU e nt)];exact e
 have nL:∀b u,H b=some u->b≠X.env.locals:=λb u e z=>by rw[z,I.free] at e;cases e
 refine I.step (g':=s.gens) (d':=s.drawn) (ch:= []) (λb hb=>by cases hb) (λb o hb _ _ e _=>k b o hb e) (λb o hb _ _ e _=>⟨o.slots,k b o hb e⟩) (λb o _ e n=>?_)
  (λb o _ e=>?_) (λb xs e=>up b _ e) (λb _ _ e=>up b _ e) (λb ps e=>⟨#[],by rw[up b _ e];simp⟩) ns (λb u e=>?_) I.bare
 ·rw[aw (λz=>by rw[z,ht] at e;cases e)];exact n
 ·by_cases hb:b=X.env.locals
  ·obtain⟨m,hm,_⟩:=I.loc
   obtain⟨o',_,_,ia,_⟩:=ns m hm;rw[hb];exact⟨o',ia⟩
  ·exact⟨o,k b o hb e⟩
 ·by_cases hb:b=t
  ·subst hb
   rw[au] at e;cases Option.some.inj e;exact new
  ·rw[aw hb] at e
   refine(I.hok b u e).rU (λc v hc q=>k c v ?_ q) (λb' q=>up b' _ q) λb' _ q=>up b' _ q
   rcases hc with z|z
   ·rw[z];exact nL b u e
   ·exact nL c _ z
end
def D4(k:Nat×Nat):List V:= [.int (k.1:Nat), .int (k.2:Nat)]
def FD(H:Hp)(L:List (Addr×(Nat×Nat))):Prop:=∀p∈L,H p.1=some (.tup (D4 p.2))
def jl(a b:Nat×Nat):Bool:=if a.1=b.1 then decide (a.2<b.2) else decide (a.1<b.1)
theorem sW(x y:Nat×Nat):jl x y=true↔x.1<y.1\/(x.1=y.1/\x.2<y.2):=by
 unfold jl
 by_cases e:x.1=y.1
 ·rw[if_pos e,decide_eq_true_iff]
  omega
 ·rw[if_neg e,decide_eq_true_iff]
  omega
theorem GA(x y z:Nat×Nat)(h:jl x z=true):jl x y=true\/jl y z=true:=by
 rw[sW] at*;rw[sW];omega
theorem Jn(x y z:Nat×Nat)(h:jl x y=true)(h':jl y z=true):jl x z=true:=by
 rw[sW] at*;omega
theorem GB(L:List (Addr×(Nat×Nat))):KS.Ord λi j=>jl (L.getD i (0,(0,0))).2 (L.getD j (0,(0,0))).2 where
 irr:=λa=>by unfold jl;rw[if_pos rfl];simp
 neg:=λa b c h=>GA _ _ _ h
 tr:=λa b c h h'=>Jn _ _ _ h h'
theorem Jm{a b:Nat×Nat}(h:jl b a=false):Wb.lexLe a b:=by
 unfold jl at h;unfold Wb.lexLe
 by_cases e:b.1=a.1
 ·rw[if_pos e] at h
  have:=of_decide_eq_false h
  right;omega
 ·rw[if_neg e] at h
  have:=of_decide_eq_false h
  left;omega
theorem L7{prog:Program}{w:World}{A:Around}{E:Value->Shared->Prop}{s:Shared}{x y:Addr}{a1 a2 b1 b2:Int}{t1 t2 u1 u2:Tok}{C:Bool->Shared->Prop}
  (hx:IsTup s.heap x [.int a1 t1, .int a2 t2].toArray) (hy:IsTup s.heap y [.int b1 u1, .int b2 u2].toArray)
  (h:C (if a1=b1 then decide (a2<b2) else decide (a1<b1)) s):wpAny (model prog w) A (keyLt' (tuples' true) (.ref x) (.ref y)) C E s:=by
 rfl';obtain⟨ox,hox,_,nx,dx⟩:=hx;obtain⟨oy,hoy,_,ny,dy⟩:=hy;ac_rfl;refine PySem.W.kat_lt hox dx hoy dy ?_;refine PySem.W.kat_cons (SeqAt.EqAt.int_int a1 t1 b1 u1 prog w _ _ ?_)
 by_cases e1:a1=b1
 ·rw[if_pos e1] at h
  rw[show(a1==b1)=true by simpa using e1]
  refine PySem.W.kat_yes (PySem.W.kat_cons (SeqAt.EqAt.int_int a2 t2 b2 u2 prog w _ _ ?_))
  by_cases e2:a2=b2
  ·rw[show(a2==b2)=true by simpa using e2]
   refine PySem.W.kat_yes (PySem.W.kat_nil ?_);rw[show decide (a2<b2)=false by simp;omega] at h
   simpa using h
  ·rw[show(a2==b2)=false by simpa using e2]
   refine PySem.W.kat_no (PySem.W.kat_one _ _ ?_);exact lt_int h
 ·rw[if_neg e1] at h
  rw[show(a1==b1)=false by simpa using e1]
  exact PySem.W.kat_no (oneLt_int h)
section
variable {X:Cx}
theorem vE{α:Type}{L:List α}{d:α}{π:List Nat}(h:π.Perm (List.range L.length)):(π.map λi=>L.getD i d).Perm L:=by
 have e:(List.range L.length).map (λi=>L.getD i d)=L:=by
  apply xj;intro i;rw[cL]
  by_cases hi:i<L.length
  ·rw[bL (by simpa using hi),bL hi]
   simp[hi]
  ·rw[eQ (by simp;omega),eQ (by omega)];rfl
 have:=h.map (λi=>L.getD i d)
 rw[e] at this;exact this
theorem qo:∀{as:List Addr}{us:List Value},Vals (as.map V.ref) us->us=as.map Value.ref
 | [],_, .nil=>rfl
 |a::as,_, .cons r t=>by cases r;rw[qo t];rfl
theorem qh:∀as:List Addr,Vals (as.map V.ref) (as.map Value.ref)
 | []=> .nil
 |a::as=> .cons rfl (qh as)
theorem Fd{P:Program}{w:World}{H:Hp}{h:Heap}{a:Addr}{o:HO}(x:cO P w H h a o):∃u,h.get? a=some u:=by
 induction o with
 |lst xs=>obtain⟨_,_,_,_,e⟩:=x;exact⟨_,e⟩
 |tup xs=>obtain⟨_,_,_,ob,e,_⟩:=x;exact⟨_,e⟩
 |dK eL=>obtain⟨_,_,_,_,ob,_,_,e,_⟩:=x;exact⟨_,e⟩
 |dT eL=>obtain⟨_,_,_,_,ob,_,_,e,_⟩:=x;exact⟨_,e⟩
 |set S n=>obtain⟨ob,_,_,_,e,_⟩:=x;exact⟨_,e⟩
 |ins C dx fs=>obtain⟨_,_,_,e,_⟩:=x;exact⟨_,e⟩
 |own y=>exact x
 |xd fs=>obtain⟨_,⟨od,_,_,e,_⟩,_⟩:=x;exact⟨_,e⟩
 |rng lo hi=>obtain⟨_,_,_,e⟩:=x;exact⟨_,e⟩
 |pL ob u ih=>exact⟨_,x.1⟩
 |Ce ps=>exact⟨_,x⟩
 |met f y=>exact⟨_,x⟩
 |ext φ=>exact x.2.1
theorem yU{pins:List (Addr×Obj)}{σ:St}{H:Hp}{s:Shared}{a:Addr}{k:Nat×Nat}(I:Inv X pins σ H s)(h:H a=some (.tup (D4 k))):
  ∃t u,IsTup s.heap a [.int (k.1:Nat) t, .int (k.2:Nat) u].toArray:=by
 rfl';obtain⟨its,r,p,_⟩:=I.tuple (eB.of h);obtain⟨u1,u2,rfl,⟨t,rfl⟩,⟨u,rfl⟩⟩:=Vals.two r;ac_rfl;exact⟨t,u,p⟩
theorem xD(hu:X.A.units+64<cLine):cU X (.builtin "sorted") (λxs H Q=>∃(p:Addr)(L:List (Addr×(Nat×Nat))),xs= [.ref p]/\bX X.K H p (L.map λe=>V.ref e.1)/\FD H L/\L.length<64/\
  ∀(q:Addr)(M:List (Addr×(Nat×Nat))),H q=none->M.Perm L->(M.map (·.2)).Pairwise Wb.lexLe->Q (.ref q) (upd H q (.lst (M.map λe=>V.ref e.1)))):=by
 intro pins s σ H xs us Q I rv h;rfl';obtain⟨p,L,rfl,hp,hL,hz,q⟩:=h;obtain⟨u,rfl,ru⟩:=rv.one;subst ru;obtain⟨its,r,pl,_⟩:=I.list hp;have hl:=r.length;rw[aI] at hl;have dS:64<=sizeLine:=by decide
 ac_rfl
 have ei:its=L.map λe=>Value.ref e.1:=by
  have:=qo (as:=L.map (·.1)) (us:=its) (by rw[dX];exact r)
  rw[this,dX];rfl
 by_cases h2:L.length<2
 ·refine KS.pj pl.isList (by omega) ?_
  obtain⟨e,he⟩:=sortedAll_at s.heap its its.toArray;have fr:H (s.heap.objs.size+1)=none:=I.hok.fresh (pE _);refine⟨.ref (s.heap.objs.size+1),_,I.laid (t':=s.toks) (λb o hb=>sortedAll_old hb) (pE _) (o:= .lst (L.map λe=>V.ref e.1)) ⟨by rw[aI];omega,its,e,r,he⟩,rfl,q _ L fr (.refl _) ?_⟩
  match L,h2 with
  | [],_=>exact .nil
  | [_],_=>exact List.pairwise_singleton _ _
 ·obtain⟨m,F⟩:=I.fr
  have N:=yO (g:=X.base) (h:=s.heap) (L:=X.env.locals);refine PySem.W.kat_sorted F N pl.isList (by omega) (by omega) λD e1 h' F' N' hD=>?_
  have kept:∀b o,b≠X.env.locals->s.heap.get? b=some o->h'.get? b=some o:=λb o hb e=>by
   cases qb:X.base.get? b with
   |some u=>
    have:=I.bk b u qb
    rw[e] at this;cases this;exact F'.keep b _ qb
   |none=>exact(N' (b,o) (b8 _ (eX hb qb e))).1
  have nL:∀b u,H b=some u->b≠X.env.locals:=λb u e z=>by rw[z,I.free] at e;cases e
  have En:∀i,i<L.length->∃t u,its.getD i Value.none= .ref (L.getD i (0,(0,0))).1/\IsTup h' (L.getD i (0,(0,0))).1 [.int ((L.getD i (0,(0,0))).2.1:Nat) t, .int ((L.getD i (0,(0,0))).2.2:Nat) u].toArray:=λi hi=>by
   have hm:L.getD i (0,(0,0))∈L:=by
    rw[bb,bL hi];exact kZ hi
   rfl';obtain⟨t,u,o,ho,hc,n,hd⟩:=yU I (hL _ hm);ac_rfl;refine⟨t,u,?_,o,kept _ _ (nL _ _ (hL _ hm)) ho,hc,n,hd⟩;rw[ei,bb,cL,bb,bL hi];rfl
  have tups:PySem.W.KatTups h' its (L.map λe=>Value.int (e.2.1:Nat) 0)\/∃fs:List Value,PySem.W.KatTups h' its fs/\fs.length=L.length/\∀v∈fs,∃i t,v= .int i t:=by
   right
   have go:∀(M:List (Addr×(Nat×Nat))),(∀e∈M,e∈L)->∃fs:List Value,PySem.W.KatTups h' (M.map λe=>Value.ref e.1) fs/\fs.length=M.length/\∀v∈fs,∃i t,v= .int i t:=by
    intro M
    induction M with
    |nil=>exact λ_=>⟨[],PySem.W.KatTups.nil,rfl,λv hv=>by cases hv⟩
    |cons e M ih=>
     intro hM;rfl';obtain⟨fs,a,b,c⟩:=ih λx hx=>hM x (b8 _ hx);have he:=hL e (hM e cw);obtain⟨t,u,o,ho,hc,n,hd⟩:=yU I he;ac_rfl;refine⟨.int (e.2.1:Nat) t::fs,PySem.W.KatTups.cons (kept _ _ (nL _ _ he) ho) hc hd rfl a,by simp[b],λv hv=>?_⟩
     rcases cD.mp hv with z|z
     ·exact⟨_,_,z⟩
     ·exact c v z
   rw[ei];exact go L λ_ h=>h
  obtain⟨fs,kt,kl,ki⟩:=tups.elim (λz=>⟨_,z,by simp,λv hv=>by obtain⟨e,_,rfl⟩:=dE.mp hv;exact⟨_,_,rfl⟩⟩) id
  refine PySem.W.kat_kind (T:= .type "int") kt (by omega) (λv hv=>by obtain⟨i,t,rfl⟩:=ki v hv;exact .now) (by decide) ?_
  have hb:(Value.type "int" !=Value.type "tuple")=true:=by decide
  rw[hb];have hn:its.length=L.length:=by omega
  rw[hn];obtain⟨π,Qj,pp,ps⟩:=KS.B0 (GB L) (n:=L.length) (by omega)
  refine KS.Et (lt:=λi j=>jl (L.getD i (0,(0,0))).2 (L.getD j (0,(0,0))).2) (n:=L.length) (λi j C hi hj hC=>?_) _ (KS.zd (by omega)) ?_
  ·obtain⟨t1,t2,g1,k1⟩:=En i hi
   obtain⟨u1,u2,g2,k2⟩:=En j hj;unfold PySem.W.kas_ask;rw[g1,g2];refine L7 k1 k2 ?_
   have e:(if ((L.getD i (0,(0,0))).2.1:Int)=((L.getD j (0,(0,0))).2.1:Int) then decide (((L.getD i (0,(0,0))).2.2:Int)<((L.getD j (0,(0,0))).2.2:Int)) else decide (((L.getD i (0,(0,0))).2.1:Int)<((L.getD j (0,(0,0))).2.1:Int)))
     =jl (L.getD i (0,(0,0))).2 (L.getD j (0,(0,0))).2:=by
    unfold jl;simp only[Int.ofNat_inj,Int.ofNat_lt]
   rw[e];exact hC
  ·show PySem.W.KasFin _ _ _ _ _ _ _ _
   rw[Qj];refine PySem.W.KasFin.intro F' N' (.head λp hp=>cH (hD p hp)) λh2 c F2 N2=>?_
   have Dt:∀b o,b≠X.env.locals->s.heap.get? b=some o->h2.get? b=some o:=λb o hb e=>by
    cases qb:X.base.get? b with
    |some u=>
     have:=I.bk b u qb
     rw[e] at this;cases this;exact F2.keep b _ qb
    |none=>exact(N2 (b,o) (b8 _ (eX hb qb e))).1
   obtain⟨_,IE,Qu⟩:=N' (D,seqObj "list" #[] e1) cw
   have IG:s.heap.get? D=none:=by
    cases qd:s.heap.get? D with
    |none=>rfl
    |some o=>exact absurd (hD (D,o) (eX IE Qu qd)) (gI _)
   have ID:H D=none:=by
    cases qd:H D with
    |none=>rfl
    |some o=>exact absurd IE (λ_=>by
      obtain⟨o',ia⟩:=Fd (I.hok D o qd);rw[IG] at ia;cases ia)
   have Rh:∀m',s.heap.Ns X.env.locals m'->h2.Ns X.env.locals m':=λm' mI=>by
    rw[mI.eq_nsMap,<-F.ns.eq_nsMap];exact F2.ns
   have IH:(π.toList.map λi=>L.getD i (0,(0,0))).Perm L:=vE pp;have IF:=(N2 (D,_) cw).1;refine⟨.ref D,_,I.Jl (t':=s.toks) Dt Rh IG ID (o:= .lst ((π.toList.map λi=>L.getD i (0,(0,0))).map λe=>V.ref e.1)) ⟨by rw[aI,IH.length_eq];omega,(π.toList.map λi=>its.getD i Value.none),c,?_,IF⟩,rfl,q D _ ID IH ?_⟩
   ·have e:(π.toList.map λi=>its.getD i Value.none)=((π.toList.map λi=>L.getD i (0,(0,0))).map (·.1)).map Value.ref:=by
     rw[dX,dX];refine List.map_congr_left λi hi=>?_;obtain⟨_,_,g,_⟩:=En i (eJ.mp (pp.mem_iff.mp hi));exact g
    rw[e,show(λe:Addr×(Nat×Nat)=>V.ref e.1)=V.ref∘(·.1) from rfl,<-dX];exact qh _
   ·rw[dX,pC]
    exact ps.imp λhle=>Jm hle
end
end L2
set_option maxHeartbeats 4000000
namespace L2
open PySem PySem.Spec PyProof.Rows
def XdO(a:Addr)(fs:List (Str×V)):HO:= .ext λh=>fs.length<=1000/\∃mA,h.Ns1 a mA/\(∀f,mN (fs.lookup f) (mA f))/\PySem.Within mA (fs.map (·.1))
section
variable {P:Program} {w:World} {H:Hp} {h:Heap} {a C:Addr} {d:Option Addr} {fs:List (Str×V)}
end
section
variable {X:Cx} {pins:List (Addr×Obj)} {σ:St} {H:Hp} {s:Shared}
variable {a C:Addr} {fs:List (Str×V)} {f:Str} {v:V} {A:Around} {E:Value->Shared->Prop}
end
section
variable {X:Cx} {o e value:Expr} {f:Str} {pos pos' aai:Pos} {ta tv:TE}
end
theorem cE.of{X:Cx}{scope:Scope}(sc:Scope)(e:X.env.scope=sc)(k:scope.kind= .function)(a:∀x∈scope.names,x.2= .local->scope.names.lookup x.1=some .local)(b:∀x∈scope.names,x.2≠ .cell)
  (c:∀x∈scope.names,x.2= .free->sc.names.lookup x.1=some .cell\/sc.names.lookup x.1=some .free):cE X scope:=⟨k,a,b,λx hx hf=>by rw[<-e] at c;exact c x hx hf⟩
structure cV (K:PySem.W.Frag) (mg:Str->Option Value) (x:Str) (st:Stmt) (ps:List Str) where
 f:Addr
 fd:FuncData
 F:uZ K x x st f fd
 b:Binds K fd ps []
 m:mg x=some (.ref f)
theorem aV{H:Hp}{p:Addr}(h:H p=none)(o:HO):aM H (upd H p o):=λb u q=>by rw[aw (aU q h)];exact q
theorem small{n:Nat}(h:n<=1000):n<=sizeLine:=Nat.le_of_lt (fw h)
open PySem.Calls
abbrev OB(C t:Addr)(tb:Value)(d:Option Addr):Obj:={cls:= .ref C,dict:=d,data:= .fields #[.ref t,tb, .none, .none, .bool false, .none]}
def Sf(C a:Addr)(d:Option Addr):HO:= .ext λh=>∃t tb,h.get? a=some (OB C t tb d)
section
variable {P:Program} {w:World} {H:Hp} {h:Heap} {a C:Addr} {d:Option Addr}
end
def Sk(h:Heap)(T:Addr):Prop:=∃o ts,h.get? T=some o/\o.data= .fields ts/\ts[3]? =some .none
section
variable {M:Model} {A:Around} {E:Value->Shared->Prop} {s:Shared}
end
def Sl(X:Cx)(H:Hp)(h:Heap)(tb:Value):Prop:=tb= .none\/∃T,tb= .ref T/\X.s₀.heap.objs.size<=T/\T≠X.env.locals/\(∀x c,X.env.cells.lookup x=some c->c≠T)/\(∀p∈X.pn,p.1≠T)/\H T=none/\Sk h T
def Sg(X:Cx)(H:Hp)(s:Shared)(a:Addr):Prop:=∃C t tb d,H a=some (Sf C a d)/\s.heap.get? a=some (OB C t tb d)/\Sl X H s.heap tb
section
variable {X:Cx} {pins:List (Addr×Obj)} {σ:St} {H H':Hp} {s s':Shared} {a:Addr}
end
def Sn(X:Cx)(σ:St)(H:Hp)(a:Addr):Prop:=∀s,Inv X [] σ H s->Sg X H s a->X.xe (.ref a) s
theorem rq{α β:Type} [DecidableEq α] (f:α->β):∀(l:List β)(L:List α),l.Perm (L.map f)->∃M:List α,M.Perm L/\l=M.map f
 | [],L,h=>by
  have:=h.length_eq
  rw[aI] at this
  have:L= []:=Fy.mp this.symm
  subst this;exact⟨[], .refl _,rfl⟩
 |x::r,L,h=>by
  obtain⟨e,he,rfl⟩:=dE.mp (h.mem_iff.mp cw);have p1:=List.perm_cons_erase he;have p2:(f e::r).Perm (f e::(L.erase e).map f):=h.trans (p1.map f);obtain⟨M,m1,rfl⟩:=rq f r (L.erase e) ((List.perm_cons _).mp p2);exact⟨e::M,(m1.cons e).trans p1.symm,rfl⟩
section
variable {X:Cx}
end
section
open PySem.SeqAt
open PySem.AutoSeq1 (wpAny_loadPart')
open PySem.MeetsSeq PySem.MeetsSeq2 PySem.MeetsSeq3
theorem Bq{vs:List Value}{ns:List Int}(h:IntsAre vs ns){i:Nat}{a:Int}(e:ns[i]? =some a):∃t,vs[i]? =some (.int a t):=by
 induction h generalizing i with
 |nil=>simp at e
 |cons b t _ ih=>
  cases i with
  |zero=>simp at e;subst e;exact⟨t,rfl⟩
  |succ i=>simp at e;obtain⟨u,hu⟩:=ih e;exact⟨u,by simpa using hu⟩
theorem Jt(l b:Addr)(items bI:Array Value)(n n2:Nat)(dd sC:Option Addr)(sl qi:Array (Option Value))(ns ms:List Int)(hi:IntsAre items.toList ns)(hj:IntsAre bI.toList ms)(k:Nat):
  ∀i:Nat,items.size-i=k->i<=items.size->i<=bI.size->Meets (Builtin.«list.__eq__.loop» ⟨[.ref l, .ref b,rawInt i,rawInt 0],[]⟩)
   (λA R s=>s.heap.get? l=some {cls:= .type "list",dict:=dd,data:= .seq items n,slots:=sl}/\s.heap.get? b=some {cls:= .type "list",dict:=sC,data:= .seq bI n2,slots:=qi}/\
    R (.ok (.ret (.bool (HT.lexLt (ns.drop i) (ms.drop i))))) s):=by
 have z1:items.size=ns.length:=by rw[<-hi.length];simp
 have z2:bI.size=ms.length:=by rw[<-hj.length];simp
 induction k with
 |zero=>
  intro i hk h1 h2 prog w A R s h;obtain⟨hp,g,d,tk,os⟩:=s;obtain⟨hl,hb,h⟩:=h
  wp_walk using wpAny_loadPart' hl,wpAny_loadPart' hb
  have pP:items[((i:Nat):Int).toNat]? =none:=by simp;omega
  rw[pP];have e1:ns.drop i= []:=List.drop_of_length_le (by omega)
  rw[e1] at h
  have hv:HT.lexLt [] (ms.drop i)=decide (items.size<bI.size):=by
   by_cases c:i<ms.length
   ·rw[Co c,HT.ma]
    exact(decide_eq_true (by omega)).symm
   ·rw[List.drop_of_length_le (by omega),HT.ng]
    exact(decide_eq_false (by omega)).symm
  rw[hv] at h
  wp_walk using wpAny_loadPart' hl,wpAny_loadPart' hb
  exact h
 |succ k ih=>
  intro i hk h1 h2 prog w A R s h;obtain⟨hp,g,d,tk,os⟩:=s;obtain⟨hl,hb,h⟩:=h
  wp_walk using wpAny_loadPart' hl,wpAny_loadPart' hb
  have dZ:i<ns.length:=by omega
  obtain⟨t,ht⟩:=Bq hi (bL dZ);have pP:items[((i:Nat):Int).toNat]? =some (.int ns[i] t):=by rw[og,<-jX];exact ht
  have hc:((i:Int)+1)=((i+1:Nat):Int):=by push_cast;rfl
  rw[pP]
  by_cases c:i<ms.length
  ·obtain⟨u,hu⟩:=Bq hj (bL c)
   have xK:bI[((i:Nat):Int).toNat]? =some (.int ms[i] u):=by rw[og,<-jX];exact hu
   rw[xK];rw[Co dZ,Co c,HT.ib] at h;obtain⟨e,he,Bi⟩:=HT.yo A.in1 ⟨hp,g,d,tk,os⟩ ns[i] t ms[i] u;refine wpAny_bind (he prog w _ _ ?_);cases e with
   |true=>
    rw[if_pos (Bi.mp rfl)] at h
    wp_walk
    rw[hc]
    exact⟨plainId_quiet plain_eq_loop _,codeAny_builtin entry_eq_loop (by
     rw[Around.under_plainId plain_eq_loop _];exact ih (i+1) (by omega) (by omega) (by omega) prog w A R _ ⟨hl,hb,h⟩)⟩
   |false=>
    rw[if_neg (λq=>absurd (Bi.mpr q) cB)] at h
    wp_walk using wpAny_loadPart' hl,wpAny_loadPart' hb
    rw[pP,xK];have QU:=HT.y6 A.in1 ⟨hp,g,d,tk,os⟩ ns[i] t ms[i] u prog w
    wp_walk using QU
    exact h
  ·have xK:bI[((i:Nat):Int).toNat]? =none:=by simp;omega
   rw[xK];rw[Co dZ,List.drop_of_length_le (show ms.length<=i by omega),HT.lZ] at h
   wp_walk using wpAny_loadPart' hl,wpAny_loadPart' hb
   show R (.ok (.ret (.bool (decide (items.size<bI.size))))) _;rw[decide_eq_false (by omega)]
   exact h
end
section
open PySem.SeqAt
open PySem.AutoSeq1 (wpAny_loadPart')
open PySem.MeetsSeq PySem.MeetsSeq2 PySem.MeetsSeq3
theorem xN(l b:Addr)(items bI:Array Value)(n n2:Nat)(dd sC:Option Addr)(sl qi:Array (Option Value))(ns ms:List Int)(hi:IntsAre items.toList ns)(hj:IntsAre bI.toList ms):
  Meets (Builtin.«list.__lt__» ⟨[.ref l, .ref b],[]⟩)
   (λ_ R s=>s.heap.get? l=some {cls:= .type "list",dict:=dd,data:= .seq items n,slots:=sl}/\s.heap.get? b=some {cls:= .type "list",dict:=sC,data:= .seq bI n2,slots:=qi}/\
    R (.ok (.ret (.bool (HT.lexLt ns ms)))) s):=by
 intro prog w A R s h;obtain⟨hp,g,d,tk,os⟩:=s;obtain⟨hl,hb,h⟩:=h;have f3:=AutoSeq1.sub_list_list
 wp_walk using wpAny_loadPart' hl,wpAny_loadPart' hb
 exact⟨plainId_quiet plain_eq_loop _,codeAny_builtin entry_eq_loop (by
  rw[Around.under_plainId plain_eq_loop _];exact Jt l b items bI n n2 dd sC sl qi ns ms hi hj _ 0 rfl (cI _) (cI _) prog w A R _ ⟨hl,hb,h⟩)⟩
end
section
variable {prog:Program} {w:World} {A:Around} {E:Value->Shared->Prop} {s:Shared}
theorem BI{l b:Addr}{items bI:Array Value}{ns ms:List Int}{Q:Bool->Shared->Prop}(hl:s.heap.IsList l items)(hb:s.heap.IsList b bI)(hi:IntsAre items.toList ns)(hj:IntsAre bI.toList ms)(hu:A.units<cLine)
  (h:Q (HT.lexLt ns ms) s):wpAny (model prog w) A (oneLt' true (.ref l) (.ref b)) Q E s:=by
 rfl';obtain⟨⟨cls,dd,data,sl⟩,ho,hc,n,hd⟩:=id hl;obtain⟨⟨Od,sC,data2,qi⟩,sP,Bg,n2,hd2⟩:=id hb;ac_rfl;simp only at hc hd Bg hd2;subst hc hd Bg hd2;rw[oneLt'_eq];simp only[if_true];refine wpAny_bind (wpAny_cRoomFor hu ?_);refine wpAny_bind (wpAny_callSpecialIfBound?_slot ⟨_,ho,rfl⟩ PySem.F.slot_list_lt (call_meets PySem.F.slot_list_lt ⟨_,ho,rfl⟩ PySem.F.entry_list_lt (PySem.F.args_list_lt_2 _ _) (xN l b items bI n n2 dd sC sl qi ns ms hi hj) ⟨ho,sP,?_⟩));exact wpAny_truthy_bool h
end
theorem qQ:∀a:List Int,HT.lexLt a a=false
 | []=>rfl
 |x::xs=>by rw[HT.ib,if_pos rfl];exact qQ xs
theorem uR:∀a b c:List Int,HT.lexLt a b=true->HT.lexLt b c=true->HT.lexLt a c=true
 | [],[],_,h,_=>by cases h
 | [],_::_,[],_,h=>by cases h
 | [],_::_,_::_,_,_=>rfl
 |_::_,[],_,h,_=>by cases h
 |_::_,_::_,[],_,h=>by cases h
 |x::xs,y::ys,z::zs,h1,h2=>by
  rw[HT.ib] at*
  by_cases e1:x=y
  ·rw[if_pos e1] at h1
   by_cases e2:y=z
   ·rw[if_pos e2] at h2
    rw[if_pos (e1.trans e2)];exact uR xs ys zs h1 h2
   ·rw[if_neg e2] at h2
    rw[if_neg (by rw[e1];exact e2),e1];exact h2
  ·rw[if_neg e1] at h1
   have l1:=of_decide_eq_true h1
   by_cases e2:y=z
   ·rw[if_neg (by rw[<-e2];exact e1),<-e2];exact h1
   ·rw[if_neg e2] at h2
    have l2:=of_decide_eq_true h2;rw[if_neg (by omega)]
    exact decide_eq_true (by omega)
theorem vP:∀a b:List Int,HT.lexLt a b=false->HT.lexLt b a=false->a=b
 | [],[],_,_=>rfl
 | [],_::_,h,_=>by cases h
 |_::_,[],_,h=>by cases h
 |x::xs,y::ys,h1,h2=>by
  rw[HT.ib] at*
  by_cases e:x=y
  ·rw[if_pos e] at h1
   rw[if_pos e.symm] at h2;rw[e,vP xs ys h1 h2]
  ·rw[if_neg e] at h1
   rw[if_neg (λz=>e z.symm)] at h2
   have:=of_decide_eq_false h1
   have:=of_decide_eq_false h2
   omega
theorem Jo(a b c:List Int)(h:HT.lexLt a c=true):HT.lexLt a b=true\/HT.lexLt b c=true:=by
 cases e1:HT.lexLt a b with
 |true=>exact .inl rfl
 |false=>
  right
  cases e2:HT.lexLt b a with
  |true=>exact uR _ _ _ e2 h
  |false=>rw[<-vP a b e1 e2];exact h
def mL(r:List Nat):List Int:=r.map λ(n:Nat)=>(n:Int)
def kI(a b:List Nat):Prop:=HT.lexLt (mL b) (mL a)=false
def O5(H:Hp)(L:List (Addr×List Nat)):Prop:=∀p∈L,H p.1=some (.lst ((mL p.2).map V.int))
theorem KZ{a b:List Nat}(h:(mL a).map V.int=(mL b).map V.int):a=b:=by
 unfold mL at h;rw[dX,dX] at h
 induction a generalizing b with
 |nil=>cases b with
  |nil=>rfl
  |cons y b=>simp at h
 |cons x a ih=>
  cases b with
  |nil=>simp at h
  |cons y b=>
   rw[j0,j0] at h
   injection h with h1 h2
   have F8:V.int (x:Int)=V.int (y:Int):=h1
   injection F8 with F8
   rw[ih h2,show x=y by omega]
section
variable {X:Cx}
end
end L2
namespace PySem.SetTable
def mO(xs:Array Nat):Prop:=∀i j (hj:j<xs.size),i<j->xs[i]! <xs[j]!
theorem IB{xs:Array Nat}{i d:Nat}(h:i<xs.size):xs.getD i d=xs[i]! :=by
 simp[Array.getD,h]
theorem vF{xs:Array Nat}(R:mO xs)(j:Nat):∀(fuel lo hi:Nat),hi-lo<=fuel->lo<=hi->hi<=xs.size->(∀i,i<lo->xs[i]! <j)->(∀i,hi<=i->i<xs.size->j<=xs[i]!)->
  lo<=below.go xs j fuel lo hi/\below.go xs j fuel lo hi<=hi/\(∀i,i<below.go xs j fuel lo hi->xs[i]! <j)/\∀i,below.go xs j fuel lo hi<=i->i<xs.size->j<=xs[i]!
 |0,lo,hi,h1,h2,h3,a,b=>by
  have:lo=hi:=by omega
  subst this;rw[below.go];exact⟨br _,br _,a,b⟩
 |fuel+1,lo,hi,h1,h2,h3,a,b=>by
  rw[below.go]
  by_cases c:lo<hi
  ·rw[if_pos c]
   have hm:(lo+hi) / 2<xs.size:=by omega
   dsimp only;rw[IB hm]
   by_cases d:xs[(lo+hi) / 2]! <j
   ·rw[if_pos d]
    have:=vF R j fuel ((lo+hi) / 2+1) hi (by omega) (by omega) h3 (λi iP=>by
     by_cases e:i=(lo+hi) / 2
     ·rw[e];exact d
     ·have:=R i ((lo+hi) / 2) hm (by omega);omega) b
    exact⟨by omega,this.2.1,this.2.2⟩
   ·rw[if_neg d]
    have:=vF R j fuel lo ((lo+hi) / 2) (by omega) (by omega) (by omega) a (λi h4 h5=>by
     by_cases e:i=(lo+hi) / 2
     ·rw[e];omega
     ·have:=R ((lo+hi) / 2) i h5 (by omega);omega)
    exact⟨this.1,by omega,this.2.2⟩
  ·rw[if_neg c]
   have:lo=hi:=by omega
   subst this;exact⟨br _,br _,a,b⟩
theorem jG{xs:Array Nat}(R:mO xs)(j:Nat):below xs j<=xs.size/\(∀i,i<below xs j->xs[i]! <j)/\∀i,below xs j<=i->i<xs.size->j<=xs[i]! :=by
 have:=vF R j xs.size 0 xs.size (by omega) (cI _) (br _) (λi h=>by omega) (λi h1 h2=>by omega)
 exact⟨this.2.1,this.2.2⟩
theorem below_at{xs:Array Nat}(R:mO xs){i j:Nat}(h:xs[i]? =some j):below xs j=i:=by
 obtain⟨hi,e⟩:=w6.mp h;have e':xs[i]! =j:=by simp[hi,e]
 obtain⟨b1,b2,b3⟩:=jG R j;apply Nat.le_antisymm
 ·apply Classical.byContradiction
  intro c
  have:=b2 i (by omega)
  omega
 ·apply Classical.byContradiction
  intro c;have h1:=b3 (below xs j) (br _) (by omega)
  have h2:=R (below xs j) i hi (by omega)
  omega
theorem qj{t:SetTable}(R:mO t.place){i j:Nat}(h:t.place[i]? =some j):t.slot j= .live i:=by
 unfold slot;rw[below_at R h];simp[h]
theorem BZ{t:SetTable}(R:mO t.place)(hd:t.dummies= #[]){j:Nat}(h:∀i:Nat,t.place[i]? ≠some j):t.slot j= .empty:=by
 unfold slot
 have h1:(t.place[below t.place j]? ==some j)=false:=by
  rw[beq_eq_false_iff_ne];exact h _
 dsimp only;rw[if_neg (by rw[h1];exact cB)]
 unfold has;rw[hd];rfl
def mH(mask:Nat)(p:Probe):Probe:=
 if p.more>0 then {p with j:=p.j+1,more:=p.more-1} else
 let (i,perturb):=leap mask p.i p.perturb
 {p with j:=i,more:=runEnd mask i-i,i,perturb}
def xX(mask:Nat)(h:Int):Probe:={j:=bits h%(mask+1),more:=runEnd mask (bits h%(mask+1))-bits h%(mask+1),i:=bits h%(mask+1),perturb:=bits h,dummy:=none}
def qk(mask:Nat)(h:Int):Nat->Probe
 |0=>xX mask h
 |k+1=>mH mask (qk mask h k)
def bS(mask:Nat)(h:Int)(k:Nat):Nat:=(qk mask h k).j
theorem HM(h:Int):bits h<2^64:=by
 unfold bits;have h1:0<=h%(2^64:Int):=Int.emod_nonneg _ (by decide)
 have h2:h%(2^64:Int)<2^64:=Int.emod_lt_of_pos _ (by decide)
 omega
def dW(mask:Nat)(i p:Nat):Nat->Nat×Nat
 |0=>(i,p)
 |r+1=>leap mask (dW mask i p r).1 (dW mask i p r).2
theorem kc(mask i p:Nat):∀r,(dW mask i p r).2=p / 32^r
 |0=>by simp[dW]
 |r+1=>by
  show(dW mask i p r).2 / 32=_;rw[kc mask i p r,Nat.div_div_eq_div_mul,Nat.pow_succ]
def Mc(mask:Nat)(i:Nat):Nat:=(i*5+1)%(mask+1)
def jL(mask:Nat)(i:Nat):Nat->Nat
 |0=>i
 |r+1=>Mc mask (jL mask i r)
theorem kG(mask i:Nat)(a:Nat):∀b,jL mask i (a+b)=jL mask (jL mask i a) b
 |0=>rfl
 |b+1=>by
  show Mc mask (jL mask i (a+b))=_;rw[kG mask i a b];rfl
theorem tE{mask i p r0:Nat}(h:(dW mask i p r0).2=0):∀r,dW mask i p (r0+r)=(jL mask (dW mask i p r0).1 r,0)
 |0=>by rw[Nat.add_zero,jL];exact Prod.ext rfl h
 |r+1=>by
  show leap mask (dW mask i p (r0+r)).1 (dW mask i p (r0+r)).2=_;rw[tE h r];unfold leap;simp[jL,Mc]
def ug(mask:Nat):Prop:=mask=7\/mask=31\/mask=127\/mask=511
def Rq(mask:Nat):Nat->Nat->List Nat
 |_,0=> []
 |i,n+1=>i::Rq mask (Mc mask i) n
theorem BD{mask s:Nat}:∀{i n:Nat},s∈Rq mask i n->∃r,r<n/\jL mask i r=s
 |i,0,h=>by cases h
 |i,n+1,h=>by
  rcases cD.mp h with rfl|h
  ·exact⟨0,by omega,rfl⟩
  ·obtain⟨r,hr,e⟩:=BD h
   refine⟨r+1,by omega,?_⟩
   have:=kG mask i 1 r
   rw[show 1+r=r+1 by omega] at this
   rw[this];exact e
theorem Rt{mask:Nat}(h:ug mask):(∀s,s<=mask->∃r,r<=mask/\jL mask 0 r=s)/\jL mask 0 (mask+1)=0:=by
 have key:∀m,(List.range (m+1)).all (λs=>(Rq m 0 (m+1)).contains s)=true->∀s,s<=m->∃r,r<=m/\jL m 0 r=s:=λm hm s hs=>by
  have:=jZ.mp hm s (eJ.mpr (by omega))
  obtain⟨r,hr,e⟩:=BD (List.contains_iff_mem.mp this);exact⟨r,by omega,e⟩
 rcases h with rfl|rfl|rfl|rfl
 ·exact⟨key 7 (by decide+kernel),by decide+kernel⟩
 ·exact⟨key 31 (by decide+kernel),by decide+kernel⟩
 ·exact⟨key 127 (by decide+kernel),by decide+kernel⟩
 ·exact⟨key 511 (by decide+kernel),by decide+kernel⟩
theorem cover{mask:Nat}(h:ug mask){i s:Nat}(hi:i<=mask)(hs:s<=mask):∃r,r<=mask/\jL mask i r=s:=by
 obtain⟨o,per⟩:=Rt h;obtain⟨a,ha,rfl⟩:=o i hi;obtain⟨b,hb,rfl⟩:=o s hs
 by_cases c:a<=b
 ·refine⟨b-a,by omega,?_⟩
  rw[<-kG,show a+(b-a)=b by omega]
 ·refine⟨mask+1-a+b,by omega,?_⟩
  rw[<-kG,show a+(mask+1-a+b)=mask+1+b by omega,kG,per]
def cz(mask:Nat)(p:Probe):Nat->Probe
 |0=>p
 |k+1=>mH mask (cz mask p k)
theorem kA(mask:Nat)(p:Probe)(a:Nat):∀b,cz mask p (a+b)=cz mask (cz mask p a) b
 |0=>rfl
 |b+1=>by
  show mH mask (cz mask p (a+b))=_;rw[kA mask p a b];rfl
theorem lP(mask:Nat)(h:Int):∀k,qk mask h k=cz mask (xX mask h) k
 |0=>rfl
 |k+1=>by
  show mH mask _=mH mask _;rw[lP mask h k]
theorem su(mask:Nat)(p:Probe):∀c,c<=p.more->cz mask p c={p with j:=p.j+c,more:=p.more-c}
 |0,_=>rfl
 |c+1,hc=>by
  show mH mask (cz mask p c)=_;rw[su mask p c (by omega)]
  unfold mH;rw[if_pos (by show p.more-c>0;omega)]
  show({p with j:=p.j+c+1,more:=p.more-c-1}:Probe)={p with j:=p.j+(c+1),more:=p.more-(c+1)}
  rw[show p.more-c-1=p.more-(c+1) by omega,show p.j+c+1=p.j+(c+1) by omega]
def Nh(mask:Nat)(p:Probe)(ip:Nat×Nat):Probe:={p with j:=ip.1,more:=runEnd mask ip.1-ip.1,i:=ip.1,perturb:=ip.2}
theorem more_le(mask i:Nat):runEnd mask i-i<=9:=by
 unfold runEnd
 split<;>omega
theorem pG(mask:Nat)(p:Probe):cz mask p (p.more+1)=Nh mask p (leap mask p.i p.perturb):=by
 show mH mask (cz mask p p.more)=_;rw[su mask p p.more (br _)];unfold mH;rw[if_neg (by show ¬p.more-p.more>0;omega)]
 rfl
theorem u7(mask:Nat)(p:Probe):∀r,∃k,k<=p.more+1+10*r/\cz mask p k=Nh mask p (dW mask p.i p.perturb (r+1))
 |0=>⟨p.more+1,by omega,pG mask p⟩
 |r+1=>by
  obtain⟨k,hk,e⟩:=u7 mask p r;have h9:=more_le mask (dW mask p.i p.perturb (r+1)).1;refine⟨k+((runEnd mask (dW mask p.i p.perturb (r+1)).1-(dW mask p.i p.perturb (r+1)).1)+1),by omega,?_⟩
  rw[kA,e];exact pG mask (Nh mask p (dW mask p.i p.perturb (r+1)))
theorem BW(mask i p:Nat)(r:Nat):(dW mask i p (r+1)).1<=mask:=by
 show(((dW mask i p r).1*5+1+(dW mask i p r).2 / 32)%(mask+1))<=mask
 have:=uf ((dW mask i p r).1*5+1+(dW mask i p r).2 / 32) (show 0<mask+1 by omega)
 omega
theorem Fn{mask i:Nat}(h:i<=mask):i+(runEnd mask i-i)<=mask:=by
 unfold runEnd
 split<;>omega
structure sq (mask:Nat) (p:Probe):Prop where
 le:p.j+p.more<=mask
 more:p.more<=9
 per:p.perturb<2^64
 dum:p.dummy=none
theorem sq.mH{mask:Nat}{p:Probe}(o:sq mask p):sq mask (mH mask p):=by
 unfold SetTable.mH
 split
 ·next h=>exact⟨by show p.j+1+(p.more-1)<=mask;have:=o.le;omega,by show p.more-1<=9;have:=o.more;omega,o.per,o.dum⟩
 ·refine⟨Fn (by have:=uf (p.i*5+1+p.perturb / 32) (show 0<mask+1 by omega);show(p.i*5+1+p.perturb / 32)%(mask+1)<=mask;omega),more_le _ _,?_,o.dum⟩
  show p.perturb / 32<2^64
  have:=o.per
  omega
theorem sq.start(mask:Nat)(h:Int):sq mask (xX mask h):=⟨Fn (mask:=mask) (i:=bits h%(mask+1)) (by have:=uf (bits h) (show 0<mask+1 by omega);omega),more_le _ _,HM h,rfl⟩
theorem sq.cz{mask:Nat}{p:Probe}(o:sq mask p):∀k,sq mask (cz mask p k)
 |0=>o
 |k+1=>(o.cz k).mH
theorem meets{mask:Nat}(f:ug mask){p:Probe}(o:sq mask p){s:Nat}(hs:s<=mask):∃k,k<10*turns mask/\(cz mask p k).j=s:=by
 have z:(dW mask p.i p.perturb 13).2=0:=by
  rw[kc];exact Nat.div_eq_of_lt (gK o.per (by decide))
 obtain⟨r,hr,e⟩:=cover f (BW mask p.i p.perturb 12) hs;obtain⟨k,hk,e2⟩:=u7 mask p (12+r);refine⟨k,?_,?_⟩
 ·have:=o.more
  unfold turns;omega
 ·rw[e2]
  show(dW mask p.i p.perturb (12+r+1)).1=s;rw[show 12+r+1=13+r by omega,tE z]
  exact e
theorem yX{t:SetTable}(R:mO t.place)(hd:t.dummies= #[])(hashAt:Nat->Int)(h:Int):∀(K fuel:Nat)(p:Probe),p.dummy=none->K<fuel->(∀i:Nat,t.place[i]? ≠some (cz t.mask p K).j)->
  ∃k0,k0<=K/\(∀k',k'<k0->∃i:Nat,t.place[i]? =some (cz t.mask p k').j/\hashAt i≠h)/\
   (((∀i:Nat,t.place[i]? ≠some (cz t.mask p k0).j)/\probe.go t hashAt h fuel p=some (.empty (cz t.mask p k0).j none))\/
    (∃i:Nat,t.place[i]? =some (cz t.mask p k0).j/\hashAt i=h/\probe.go t hashAt h fuel p=some (.candidate (cz t.mask p k0).j i (cz t.mask p (k0+1)))))
 |K,0,p,_,hK,_=>by omega
 |K,fuel+1,p,dn,hK,he=>by
  by_cases c:∃i:Nat,t.place[i]? =some p.j
  ·obtain⟨i,hi⟩:=c
   have sl:=qj R hi
   by_cases c2:hashAt i=h
   ·refine⟨0,cI _,λk' h'=>by omega, .inr ⟨i,hi,c2,?_⟩⟩
    rw[probe.go,sl];dsimp only;rw[if_pos (by simpa using c2)]
    rfl
   ·cases K with
    |zero=>exact absurd hi (he i)
    |succ K=>
     have dn':(mH t.mask p).dummy=none:=by
      unfold mH
      split<;>exact dn
     have e1:∀k,cz t.mask (mH t.mask p) k=cz t.mask p (k+1):=λk=>by
      have:=kA t.mask p 1 k
      rw[show 1+k=k+1 by omega] at this
      exact this.symm
     obtain⟨k0,hk0,a,b⟩:=yX R hd hashAt h K fuel (mH t.mask p) dn' (by omega) (by rw[e1];exact he)
     have eg:probe.go t hashAt h (fuel+1) p=probe.go t hashAt h fuel (mH t.mask p):=by
      rw[probe.go,sl];dsimp only;rw[if_neg (by simpa using c2)]
      rfl
     refine⟨k0+1,by omega,λk' h'=>?_,?_⟩
     ·cases k' with
      |zero=>exact⟨i,hi,c2⟩
      |succ k'=>
       have:=a k' (by omega)
       rw[e1] at this;exact this
     ·rw[e1,e1] at b
      rw[eg];exact b
  ·have c:∀i:Nat,t.place[i]? ≠some p.j:=λi hi=>c ⟨i,hi⟩
   refine⟨0,cI _,λk' h'=>by omega, .inl ⟨c,?_⟩⟩
   rw[probe.go,BZ R hd c];dsimp only;rw[dn];rfl
structure TOk (t:SetTable) (hs:List Int):Prop where
 few:ug t.mask
 dum:t.dummies= #[]
 rise:mO t.place
 size:t.place.size=hs.length
 le:∀(i j:Nat),t.place[i]? =some j->j<=t.mask
 room:t.place.size<=t.mask
 path:∀(i:Nat)(h:Int),hs[i]? =some h->∃k,t.place[i]? =some (bS t.mask h k)/\∀k',k'<k->∃i':Nat,t.place[i']? =some (bS t.mask h k')
theorem Ar(mask:Nat)(h:Int)(k:Nat):bS mask h k<=mask:=by
 unfold bS;rw[lP]
 have:=((sq.start mask h).cz k).le
 omega
theorem TOk.empty{t:SetTable}{hs:List Int}(T:TOk t hs):∃s,s<=t.mask/\∀i:Nat,t.place[i]? ≠some s:=by
 apply Classical.byContradiction;intro c
 have all:∀s∈List.range (t.mask+1),s∈t.place.toList:=λs hs=>by
  apply Classical.byContradiction;intro n;refine c ⟨s,by have:=eJ.mp hs;omega,λi hi=>n ?_⟩
  rw[<-jX] at hi;exact eS hi
 have:=Wb.bg List.nodup_range all
 rw[kX,n9] at this
 have:=T.room
 omega
theorem TOk.probe{t:SetTable}{hs:List Int}(T:TOk t hs)(hashAt:Nat->Int)(h:Int)(k:Nat):
  ∃k0,k<=k0/\(∀k',k<=k'->k'<k0->∃i:Nat,t.place[i]? =some (bS t.mask h k')/\hashAt i≠h)/\
   (((∀i:Nat,t.place[i]? ≠some (bS t.mask h k0))/\t.probe hashAt h (qk t.mask h k)=some (.empty (bS t.mask h k0) none))\/
    (∃i:Nat,t.place[i]? =some (bS t.mask h k0)/\hashAt i=h/\t.probe hashAt h (qk t.mask h k)=some (.candidate (bS t.mask h k0) i (qk t.mask h (k0+1))))):=by
 obtain⟨s,Gq,he⟩:=T.empty;have o:=(sq.start t.mask h).cz k;rw[<-lP] at o;obtain⟨K,hK,eK⟩:=meets T.few o Gq;have e1:∀c,cz t.mask (qk t.mask h k) c=qk t.mask h (k+c):=λc=>by rw[lP,lP,<-kA]
 obtain⟨k0,h0,a,b⟩:=yX T.rise T.dum hashAt h K (10*turns t.mask) (qk t.mask h k) o.dum hK (by rw[eK];exact he)
 refine⟨k+k0,by omega,λk' h1 h2=>?_,?_⟩
 ·have:=a (k'-k) (by omega)
  rw[e1,show k+(k'-k)=k' by omega] at this
  exact this
 ·rw[e1,e1] at b
  exact b
theorem j7{α:Type}{xs:Array α}{p:Nat}(x:α)(hp:p<=xs.size)(i:Nat):(insertAt xs p x)[i]? =if i<p then xs[i]? else if i=p then some x else xs[i-1]? :=by
 rw[<-jX,SetTable.toList_insertAt];have lt:(xs.toList.take p).length=p:=by rw[fj,n9];omega
 by_cases c:i<p
 ·rw[if_pos c,gE (by omega),w9 c,jX]
 ·rw[if_neg c]
  by_cases d:i=p
  ·subst d
   rw[if_pos rfl,iH (by omega),lt,lb];rfl
  ·rw[if_neg d,iH (by omega),lt]
   obtain⟨m,hm⟩:∃m,i-p=m+1:=⟨i-p-1,by omega⟩
   rw[hm,xf,Cs,jX]
   congr 1;omega
theorem gy{α:Type}(xs:Array α)(p:Nat)(x:α):(insertAt xs p x).size=xs.size+1:=by
 rw[<-n9,(SetTable.insertAt_perm xs p x).length_eq];simp
theorem iV{xs:Array Nat}{i j:Nat}(h:xs[i]? =some j):xs[i]! =j:=by
 obtain⟨hi,e⟩:=w6.mp h;simp[hi,e]
theorem Ha{xs:Array Nat}(R:mO xs){j:Nat}(h:∀i:Nat,xs[i]? ≠some j):mO (insertAt xs (below xs j) j):=by
 obtain⟨b1,b2,b3⟩:=jG R j;have g:=j7 (xs:=xs) j b1;intro a b hb Gb;rw[gy] at hb
 have val:∀i,i<xs.size+1->∃v,(insertAt xs (below xs j) j)[i]? =some v/\((i<below xs j/\xs[i]? =some v)\/(i=below xs j/\v=j)\/(below xs j<i/\xs[i-1]? =some v)):=λi hi=>by
  rw[g i]
  by_cases c:i<below xs j
  ·rw[if_pos c,zk (by omega)]
   exact⟨_,rfl, .inl ⟨c,rfl⟩⟩
  ·rw[if_neg c]
   by_cases d:i=below xs j
   ·rw[if_pos d];exact⟨j,rfl, .inr (.inl ⟨d,rfl⟩)⟩
   ·rw[if_neg d,zk (by omega)]
    exact⟨_,rfl, .inr (.inr ⟨by omega,rfl⟩)⟩
 obtain⟨va,ha,ca⟩:=val a (by omega)
 obtain⟨vb,sN,cb⟩:=val b (by omega)
 rw[iV ha,iV sN];have lo:∀i v,i<below xs j->xs[i]? =some v->v<j:=λi v h1 h2=>by have:=b2 i h1;rw[iV h2] at this;exact this
 have hi:∀i v,below xs j<=i->xs[i]? =some v->j<v:=λi v h1 h2=>by
  have:=b3 i h1 (w6.mp h2).1
  rw[iV h2] at this
  have:v≠j:=λz=>h i (by rw[h2,z])
  omega
 have mid:∀i k v u,xs[i]? =some v->xs[k]? =some u->i<k->v<u:=λi k v u h1 h2 h3=>by
  have:=R i k (w6.mp h2).1 h3
  rw[iV h1,iV h2] at this;exact this
 rcases ca with ⟨a1,a2⟩ | ⟨a1,rfl⟩ | ⟨a1,a2⟩
 ·rcases cb with ⟨c1,c2⟩ | ⟨c1,rfl⟩ | ⟨c1,c2⟩
  ·exact mid _ _ _ _ a2 c2 Gb
  ·exact lo _ _ a1 a2
  ·have:=lo _ _ a1 a2;have:=hi (b-1) _ (by omega) c2;omega
 ·rcases cb with ⟨c1,c2⟩ | ⟨c1,rfl⟩ | ⟨c1,c2⟩
  ·omega
  ·omega
  ·exact hi (b-1) _ (by omega) c2
 ·rcases cb with ⟨c1,c2⟩ | ⟨c1,rfl⟩ | ⟨c1,c2⟩
  ·omega
  ·omega
  ·exact mid _ _ _ _ a2 c2 (by omega)
theorem Ke{xs:Array Nat}(R:mO xs){j s:Nat}:(∃i:Nat,(insertAt xs (below xs j) j)[i]? =some s)↔s=j\/∃i:Nat,xs[i]? =some s:=by
 obtain⟨b1,_,_⟩:=jG R j;have g:=j7 (xs:=xs) j b1
 constructor
 ·rintro⟨i,h⟩
  rw[g i] at h
  split at h
  ·exact .inr ⟨i,h⟩
  ·split at h
   ·exact .inl (Option.some.inj h).symm
   ·exact .inr ⟨_,h⟩
 ·rintro(rfl| ⟨i,h⟩)
  ·exact⟨below xs s,by rw[g,if_neg (by omega),if_pos rfl]⟩
  ·by_cases c:i<below xs j
   ·exact⟨i,by rw[g,if_pos c];exact h⟩
   ·exact⟨i+1,by rw[g,if_neg (by omega),if_neg (by omega)];exact h⟩
theorem TOk.put{t:SetTable}{hs:List Int}(T:TOk t hs){h:Int}{k:Nat}(he:∀i:Nat,t.place[i]? ≠some (bS t.mask h k))(hp:∀k',k'<k->∃i:Nat,t.place[i]? =some (bS t.mask h k'))(room:t.place.size+1<=t.mask):
  (t.put (bS t.mask h k)).2=below t.place (bS t.mask h k)/\below t.place (bS t.mask h k)<=hs.length/\
  TOk (t.put (bS t.mask h k)).1 (hs.take (below t.place (bS t.mask h k))++h::hs.drop (below t.place (bS t.mask h k))):=by
 obtain⟨b1,b2,b3⟩:=jG T.rise (bS t.mask h k);have g:=j7 (xs:=t.place) (bS t.mask h k) b1;have sz:=T.size;have pm:=λs=>Ke (s:=s) (j:=bS t.mask h k) T.rise;refine⟨rfl,by omega,T.few,?_,Ha T.rise he,?_,?_,?_,?_⟩
 ·show(if has t.dummies _=true then _ else t.dummies)= #[]
  rw[T.dum];rfl
 ·show(insertAt t.place _ _).size=_
  rw[gy,dG,fj,dD,kY];omega
 ·intro i j hj
  have hj:(insertAt t.place (below t.place (bS t.mask h k)) (bS t.mask h k))[i]? =some j:=hj
  rcases(pm j).mp ⟨i,hj⟩ with rfl| ⟨i',h'⟩
  ·exact Ar _ _ _
  ·exact T.le _ _ h'
 ·show(insertAt t.place _ _).size<=_
  rw[gy];exact room
 ·intro i h' hi
  show ∃k1,(insertAt t.place (below t.place (bS t.mask h k)) (bS t.mask h k))[i]? =some (bS t.mask h' k1)/\∀k',k'<k1->∃i':Nat,(insertAt t.place (below t.place (bS t.mask h k)) (bS t.mask h k))[i']? =some (bS t.mask h' k');have lt:(hs.take (below t.place (bS t.mask h k))).length=below t.place (bS t.mask h k):=by rw[fj];omega
  by_cases c:i<below t.place (bS t.mask h k)
  ·rw[gE (by omega),w9 c] at hi
   obtain⟨k1,e1,e2⟩:=T.path i h' hi;exact⟨k1,by rw[g,if_pos c];exact e1,λk' gS=>(pm _).mpr (.inr (e2 k' gS))⟩
  ·rw[iH (by omega),lt] at hi
   by_cases d:i=below t.place (bS t.mask h k)
   ·rw[d,lb] at hi
    cases(Option.some.inj hi);exact⟨k,by rw[d,g,if_neg (by omega),if_pos rfl],λk' gS=>(pm _).mpr (.inr (hp k' gS))⟩
   ·obtain⟨m,hm⟩:∃m,i-below t.place (bS t.mask h k)=m+1:=⟨i-below t.place (bS t.mask h k)-1,by omega⟩
    rw[hm,xf,Cs] at hi;obtain⟨k1,e1,e2⟩:=T.path _ h' hi;refine⟨k1,?_,λk' gS=>(pm _).mpr (.inr (e2 k' gS))⟩;rw[g,if_neg c,if_neg d,show i-1=below t.place (bS t.mask h k)+m by omega]
    exact e1
theorem tY(mask i p:Nat):∀r,dW mask i p (r+1)=dW mask (leap mask i p).1 (leap mask i p).2 r
 |0=>rfl
 |r+1=>by
  show leap mask (dW mask i p (r+1)).1 (dW mask i p (r+1)).2=_;rw[tY mask i p r];rfl
def Own(o:Array (Option Nat))(s:Nat):Prop:=(o.getD s (some 0)).isNone=false
theorem vC{mask:Nat}(owner:Array (Option Nat)):∀(fuel:Nat)(p:Probe),p.j=p.i->p.more=runEnd mask p.i-p.i->p.i<=runEnd mask p.i->(∃r,r<fuel/\¬Own owner (dW mask p.i p.perturb r).1)->
  ∃k0,layClean.free mask owner fuel p.i p.perturb=some (cz mask p k0).j/\¬Own owner (cz mask p k0).j/\∀k',k'<k0->Own owner (cz mask p k').j
 |0,p,_,_,_,⟨r,hr,_⟩=>by omega
 |fuel+1,p,e1,e2,e3,⟨r,hr,he⟩=>by
  have run:∀c,c<=p.more->(cz mask p c).j=p.i+c:=λc hc=>by rw[su mask p c hc];show p.j+c=_;rw[e1]
  cases hf:(List.range (runEnd mask p.i+1-p.i)).find? λk=>(owner.getD (p.i+k) (some 0)).isNone with
  |some k=>
   obtain⟨h1,as,bs,h2,h3⟩:=List.find?_eq_some_iff_append.mp hf;have hk:k<runEnd mask p.i+1-p.i:=eJ.mp (by rw[h2];simp)
   have las:as.length=k:=by
    have hl:as.length<(List.range (runEnd mask p.i+1-p.i)).length:=by rw[h2];simp
    have:=ud (n:=runEnd mask p.i+1-p.i) (i:=as.length) (by simpa using hl)
    rw[h2,iH (br _),lb] at this;exact(Option.some.inj this).symm
   refine⟨k,?_,?_,λk' gS=>?_⟩
   ·rw[layClean.free,hf,run k (by omega)]
   ·rw[run k (by omega)]
    unfold Own;rw[h1];exact Bool.noConfusion
   ·rw[run k' (by omega)]
    have hm:k'∈as:=by
     have:=ud (n:=runEnd mask p.i+1-p.i) (i:=k') (by omega)
     rw[h2,gE (by omega)] at this
     exact eS this
    have:=h3 k' hm
    unfold Own;exact Bool.not_eq_true' _▸this
  |none=>
   have all:=List.find?_eq_none.mp hf
   have own:∀c,c<=p.more->Own owner (p.i+c):=λc hc=>by
    have:=all c (eJ.mpr (by omega))
    unfold Own;exact Ct.mpr this
   cases r with
   |zero=>exact absurd (own 0 (cI _)) he
   |succ r=>
    have lp:=pG mask p
    obtain⟨k0,a,b,c⟩:=vC owner fuel (Nh mask p (leap mask p.i p.perturb)) rfl rfl (by
     show(leap mask p.i p.perturb).1<=runEnd mask (leap mask p.i p.perturb).1;unfold runEnd;split<;>omega) ⟨r,by omega,by rw[tY] at he;exact he⟩
    rw[<-lp] at a b c;have e4:∀k,cz mask (cz mask p (p.more+1)) k=cz mask p (p.more+1+k):=λk=>(kA mask p (p.more+1) k).symm;refine⟨p.more+1+k0,?_,?_,λk' gS=>?_⟩
    ·rw[layClean.free,hf,<-e4,<-a,lp];rfl
    ·rw[<-e4];exact b
    ·by_cases d:k'<=p.more
     ·rw[run k' d];exact own k' d
     ·have:=c (k'-(p.more+1)) (by omega)
      rw[e4,show p.more+1+(k'-(p.more+1))=k' by omega] at this
      exact this
structure Laid (mask:Nat) (hs:List Int) (owner:Array (Option Nat)) (ss:List Nat):Prop where
 size:owner.size=mask+1
 len:ss.length=hs.length
 nd:ss.Nodup
 le:∀s∈ss,s<=mask
 get:∀s,s<=mask->∀k,owner.getD s (some 0)=some k↔ss[k]? =some s
 path:∀(k:Nat)(h:Int),hs[k]? =some h->∃c,ss[k]? =some (bS mask h c)/\∀c',c'<c->bS mask h c'∈ss
theorem Laid.own{mask:Nat}{hs:List Int}{owner:Array (Option Nat)}{ss:List Nat}(L:Laid mask hs owner ss){s:Nat}(h:s<=mask):Own owner s↔s∈ss:=by
 unfold Own
 constructor
 ·intro e
  cases o:owner.getD s (some 0) with
  |none=>rw[o] at e;cases e
  |some k=>exact eS ((L.get s h k).mp o)
 ·intro e
  obtain⟨k,hk⟩:=pA e;rw[(L.get s h k).mpr hk];rfl
theorem Du{mask:Nat}(f:ug mask){hs:List Int}{owner:Array (Option Nat)}{ss:List Nat}(L:Laid mask hs owner ss)(room:hs.length<=mask)(h:Int):
  ∃j,layClean.free mask owner (turns mask) (bits h%(mask+1)) (bits h)=some j/\Laid mask (hs++ [h]) (owner.setIfInBounds j (some hs.length)) (ss++ [j]):=by
 have o:=sq.start mask h
 obtain⟨s,m8,gT⟩:∃s,s<=mask/\s∉ss:=by
  apply Classical.byContradiction;intro c
  have all:∀s∈List.range (mask+1),s∈ss:=λs hs=>by
   apply Classical.byContradiction;intro n;exact c ⟨s,by have:=eJ.mp hs;omega,n⟩
  have:=Wb.bg List.nodup_range all
  rw[kX,L.len] at this;omega
 have z:(dW mask (xX mask h).i (xX mask h).perturb 13).2=0:=by
  rw[kc];exact Nat.div_eq_of_lt (gK o.per (by decide))
 obtain⟨r,hr,e⟩:=cover f (BW mask (xX mask h).i (xX mask h).perturb 12) m8
 have hi:(xX mask h).i<=mask:=by
  have:=uf (bits h) (show 0<mask+1 by omega)
  show bits h%(mask+1)<=mask;omega
 obtain⟨k0,a,b,c⟩:=vC owner (turns mask) (xX mask h) rfl rfl (by unfold runEnd;split<;>omega) ⟨13+r,by unfold turns;omega,by
  rw[tE z];show ¬Own owner (jL mask _ r);rw[e,L.own m8];exact gT⟩
 have sl:∀k,(cz mask (xX mask h) k).j=bS mask h k:=λk=>by unfold bS;rw[lP]
 rw[sl] at a b;have hle:=Ar mask h k0;rw[L.own hle] at b;refine⟨bS mask h k0,a,?_,?_,?_,?_,?_,?_⟩
 ·rw[Array.size_setIfInBounds];exact L.size
 ·rw[dG,dG,L.len];rfl
 ·exact gN.mpr ⟨L.nd,by simp,λx hx y hy z=>b (by rw[<-iI.mp hy,<-z];exact hx)⟩
 ·intro x hx
  rcases fR.mp hx with hx|hx
  ·exact L.le x hx
  ·rw[iI.mp hx];exact hle
 ·intro x hx k
  have e1:(owner.setIfInBounds (bS mask h k0) (some hs.length)).getD x (some 0)=if bS mask h k0=x then some hs.length else owner.getD x (some 0):=by
   rw[uc,uc,Array.getElem?_setIfInBounds]
   by_cases d:bS mask h k0=x
   ·rw[if_pos d,if_pos d,if_pos (by rw[L.size];omega)];rfl
   ·rw[if_neg d,if_neg d]
  rw[e1]
  by_cases d:bS mask h k0=x
  ·rw[if_pos d]
   constructor
   ·intro e
    cases(Option.some.inj e);rw[<-L.len,iH (br _),lb,<-d];rfl
   ·intro e
    by_cases q:k<ss.length
    ·rw[gE q] at e
     exact absurd (by rw[d];exact eS e) b
    ·have:k<(ss++ [bS mask h k0]).length:=(cT.mp e).1
     rw[dG] at this
     have:k<ss.length+1:=this
     rw[show k=ss.length by omega,L.len]
  ·rw[if_neg d,L.get x hx k]
   constructor
   ·intro e
    rw[gE (cT.mp e).1];exact e
   ·intro e
    by_cases q:k<ss.length
    ·rw[gE q] at e;exact e
    ·have:k<(ss++ [bS mask h k0]).length:=(cT.mp e).1
     rw[dG] at this
     have:k<ss.length+1:=this
     rw[show k=ss.length by omega,iH (br _),lb] at e
     exact absurd (Option.some.inj e) d
 ·intro k h' hk
  by_cases q:k<hs.length
  ·rw[gE q] at hk
   obtain⟨c1,e1,e2⟩:=L.path k h' hk;exact⟨c1,by rw[gE (by rw[L.len];exact q)];exact e1,λc' oP=>mE _ (e2 c' oP)⟩
  ·have:k<(hs++ [h]).length:=(cT.mp hk).1
   rw[dG] at this
   have:k<hs.length+1:=this
   have ek:k=hs.length:=by omega
   subst ek;rw[iH (br _),lb] at hk;cases(Option.some.inj hk);refine⟨k0,by rw[<-L.len,iH (br _),lb];rfl,λc' oP=>mE _ ?_⟩
   have:=c c' oP
   rw[sl] at this;exact(L.own (Ar _ _ _)).mp this
theorem Dw(mask:Nat):Laid mask [] (Array.replicate (mask+1) none) [] where
 size:=by simp
 len:=rfl
 nd:=iL
 le:=λs h=>by cases h
 get:=λs hs k=>by
  rw[uc,Array.getElem?_replicate,if_pos (by omega)]
  simp
 path:=λk h e=>by cases e
def yE(mask:Nat)(acc:Option (Array (Option Nat)×Nat))(h:Int):Option (Array (Option Nat)×Nat):=do
 let (owner,k) <-acc
 let j <-layClean.free mask owner (turns mask) (bits h%(mask+1)) (bits h)
 pure (owner.setIfInBounds j (some k),k+1)
theorem yF{mask:Nat}(f:ug mask):∀(rest done:List Int)(owner:Array (Option Nat))(ss:List Nat),Laid mask done owner ss->done.length+rest.length<=mask+1->
  ∃rg RN,rest.foldl (yE mask) (some (owner,done.length))=some (rg,done.length+rest.length)/\Laid mask (done++rest) rg RN
 | [],done,owner,ss,L,_=>⟨owner,ss,rfl,by rw[pD];exact L⟩
 |h::rest,done,owner,ss,L,hl=>by
  rw[dD] at hl;obtain⟨j,e,L'⟩:=Du f L (by omega) h
  have ef:yE mask (some (owner,done.length)) h=some (owner.setIfInBounds j (some done.length),done.length+1):=by
   unfold yE;simp[e]
  obtain⟨rg,RN,e2,L2⟩:=yF f rest (done++ [h]) _ _ L' (by rw[dG];show done.length+1+rest.length<=_;omega)
  refine⟨rg,RN,?_,by rw[xi] at L2;exact L2⟩
  rw[List.foldl_cons,ef];rw[dG] at e2;have e2:rest.foldl (yE mask) (some (owner.setIfInBounds j (some done.length),done.length+1))=some (rg,done.length+1+rest.length):=e2;rw[e2,dD]
  congr 2;omega
theorem z7{mask:Nat}(f:ug mask)(hs:List Int)(room:hs.length<=mask+1):∃owner ss,layClean mask hs.toArray=some owner/\Laid mask hs owner ss:=by
 rfl';obtain⟨owner,ss,e,L⟩:=yF f hs [] _ _ (Dw mask) (by simpa using room)
 ac_rfl;refine⟨owner,ss,?_,by simpa using L⟩
 have:layClean mask hs.toArray=(hs.foldl (yE mask) (some (Array.replicate (mask+1) none,0))).map (·.1):=by
  unfold layClean;rw[List.foldl_toArray];rfl
 have e:hs.foldl (yE mask) (some (Array.replicate (mask+1) none,0))=some (owner,[].length+hs.length):=e;rw[this,e];rfl
def dU(mask:Nat)(owner:Array (Option Nat)):List (Nat×Nat):=(List.range (mask+1)).filterMap λj=>(owner.getD j none).map (j,·)
theorem GC{mask:Nat}{hs:List Int}{owner:Array (Option Nat)}{ss:List Nat}(L:Laid mask hs owner ss){j k:Nat}:(j,k)∈dU mask owner↔ss[k]? =some j:=by
 unfold dU;rw[zq93]
 have dflt:∀s,s<=mask->owner.getD s none=owner.getD s (some 0):=λs hs=>by
  rw[uc,uc,zk (by rw[L.size];omega)];rfl
 constructor
 ·rintro⟨s,Gq,e⟩
  have Gq:=eJ.mp Gq;rw[dflt s (by omega)] at e
  cases o:owner.getD s (some 0) with
  |none=>rw[o] at e;cases e
  |some k'=>
   rw[o] at e;have e:=Option.some.inj e;have e1:s=j:=(Prod.mk.inj e).1;have e2:k'=k:=(Prod.mk.inj e).2;rw[<-e1,<-e2];exact(L.get s (by omega) k').mp o
 ·intro e
  have hj:=L.le j (eS e);refine⟨j,eJ.mpr (by omega),?_⟩
  rw[dflt j hj,(L.get j hj k).mpr e];rfl
theorem DD(mask:Nat)(owner:Array (Option Nat)):((dU mask owner).map (·.1)).Pairwise (·<·):=by
 unfold dU;rw[pC,List.pairwise_filterMap];refine List.pairwise_lt_range.imp λ {a b} h x hx y hy=>?_;cases oa:owner.getD a none with
 |none=>rw[oa] at hx;cases hx
 |some ka=>
  cases ob:owner.getD b none with
  |none=>rw[ob] at hy;cases hy
  |some kb=>
   rw[oa] at hx;rw[ob] at hy;cases(Option.some.inj hx);cases(Option.some.inj hy);exact h
theorem Jk{mask:Nat}(f:ug mask)(hs:List Int)(room:hs.length<=mask)(finger moves:Nat)(led plain:Bool):
  ∃t order,laid mask finger moves led plain hs.toArray=some (t,order)/\t.mask=mask/\t.led=led/\t.plain=plain/\t.moves=moves/\order.toList.Perm (List.range hs.length)/\TOk t (order.toList.map λk=>hs.getD k 0):=by
 rfl';obtain⟨owner,ss,e,L⟩:=z7 f hs (by omega)
 have lm:=λ {j k:Nat}=>GC (j:=j) (k:=k) L;have ri:=DD mask owner;ac_rfl
 have nh:((dU mask owner).map (·.2)).Nodup:=by
  rw[Ex,pC];rw[pC] at ri;refine ri.imp_of_mem λ {a b} ha hb Gb z=>?_;obtain⟨aj,ak⟩:=a;obtain⟨bj,bk⟩:=b;have h1:=lm.mp ha;have h2:=lm.mp hb;have z:ak=bk:=z;rw[z,h2] at h1
  have:=Option.some.inj h1
  have Gb:aj<bj:=Gb;omega
 have perm:((dU mask owner).map (·.2)).Perm (List.range hs.length):=by
  refine(Cn nh List.nodup_range).mpr λk=>?_;rw[dE,eJ]
  constructor
  ·rintro⟨⟨j,k'⟩,h,rfl⟩
   have:=(cT.mp (lm.mp h)).1
   rw[L.len] at this;exact this
  ·intro hk
   have gS:k<ss.length:=by rw[L.len];exact hk
   exact⟨(ss[k],k),lm.mpr (bL gS),rfl⟩
 have ll:(dU mask owner).length=hs.length:=by
  have:=perm.length_eq
  simpa using this
 refine⟨{mask,place:=((dU mask owner).map (·.1)).toArray,dummies:= #[],finger,led,moves,plain},((dU mask owner).map (·.2)).toArray,?_,rfl,rfl,rfl,rfl,by simpa using perm,?_⟩
 ·unfold laid
  rw[e];rfl
 have J3:∀(i j:Nat),((dU mask owner).map (·.1)).toArray[i]? =some j↔∃k,(dU mask owner)[i]? =some (j,k):=λi j=>by
  rw[List.getElem?_toArray,cL];cases o:(dU mask owner)[i]? with
  |none=>simp
  |some x=>
   obtain⟨a,b⟩:=x;simp
 have inn:∀s,s∈ss->∃i:Nat,((dU mask owner).map (·.1)).toArray[i]? =some s:=λs Gq=>by
  obtain⟨k,hk⟩:=pA Gq;obtain⟨i,hi⟩:=pA (lm.mpr hk);exact⟨i,(J3 i s).mpr ⟨k,hi⟩⟩
 refine⟨f,rfl,?_,?_,?_,?_,?_⟩
 ·intro a b hb Gb
  have hb:b<((dU mask owner).map (·.1)).length:=hb
  have:=Ez.mp ri a b (by omega) hb Gb
  simp[show a<(dU mask owner).length by simpa using(show a<((dU mask owner).map (·.1)).length by omega),show b<(dU mask owner).length by simpa using hb]
  simpa using this
 ·simp
 ·intro i j h
  obtain⟨k,hk⟩:=(J3 i j).mp h;exact L.le j (eS (lm.mp (eS hk)))
 ·show((dU mask owner).map (·.1)).toArray.size<=mask
  simp[ll];exact room
 ·intro i h' hi
  rw[cL] at hi;cases o:(dU mask owner)[i]? with
  |none=>
   have:(((dU mask owner).map (·.2)).toArray.toList)[i]? =none:=by simp[o]
   rw[this] at hi;cases hi
  |some x=>
   obtain⟨j,k⟩:=x;have e1:(((dU mask owner).map (·.2)).toArray.toList)[i]? =some k:=by simp[o]
   rw[e1] at hi;have sk:=lm.mp (eS o);have hk:k<hs.length:=by rw[<-L.len];exact(cT.mp sk).1
   have eh:hs[k]? =some h':=by
    rw[<-Option.some.inj hi];show _=some (hs.getD k 0);rw[bb,bL hk];rfl
   obtain⟨c,p1,p2⟩:=L.path k h' eh;rw[sk] at p1;refine⟨c,(J3 i _).mpr ⟨k,by rw[o,Option.some.inj p1]⟩,λc' oP=>inn _ (p2 c' oP)⟩
end PySem.SetTable
namespace PySem
open SetTable PyProof.Rows
def fX(w:World):Bool:=w.params.followText "set-order"
structure lW (bt:Bool) (o:Obj) (es:Array (Int×Value)) (ep:Nat) (t:SetTable):Prop where
 ex:o.ExactSet
 dat:o.data= .set es ep t
 tok:TOk t (es.toList.map (·.1))
 pl:t.plain=true
 ld:t.led= !bt
 few:5*es.size<3*t.mask
theorem TOk.fits{t:SetTable}{hs:List Int}(T:TOk t hs):t.fits hs.length=true:=by
 simp only[SetTable.fits,SetTable.fill,T.dum,T.size,iJ,beq_iff_eq,decide_eq_true_eq,true_and]
 have:=T.room
 rw[T.size] at this;simpa using this
theorem lW.fits{w:Bool}{o:Obj}{es:Array (Int×Value)}{ep:Nat}{t:SetTable}(S:lW w o es ep t):t.fits es.size=true:=by
 have:=TOk.fits S.tok
 simpa using this
theorem F4{mask n:Nat}(f:ug mask)(h:5*n<3*mask):n+1<=mask:=by
 rcases f with rfl|rfl|rfl|rfl<;>omega
theorem CY{mask n:Nat}(f:ug mask)(h1:3*mask<=5*n)(h2:5*(n-1)<3*mask)(h3:n<=306):ug (sizeAbove (grown n)-1)/\5*n<3*(sizeAbove (grown n)-1)/\n<=sizeAbove (grown n)-1/\sizeAbove (grown n)<=512:=by
 rcases f with rfl|rfl|rfl|rfl
 ·have:n=5:=by omega
  subst this;exact⟨.inr (.inl rfl),by decide,by decide,by decide⟩
 ·have:n=19:=by omega
  subst this;exact⟨.inr (.inr (.inl rfl)),by decide,by decide,by decide⟩
 ·have:n=77:=by omega
  subst this;exact⟨.inr (.inr (.inr rfl)),by decide,by decide,by decide⟩
 ·omega
theorem Ec{t:SetTable}{es:Array (Int×Value)}(T:TOk t (es.toList.map (·.1)))(full:t.tooFull=true)(near:5*(es.size-1)<3*t.mask)(small:es.size<=306):
  ∃t' order,t.relaid (es.map (·.1)) (grown es.size)=some (t',order)/\order.toList.Perm (List.range es.size)/\(order.filterMap (es[·]?)).toList.Perm es.toList/\(order.filterMap (es[·]?)).size=es.size/\
   TOk t' ((order.filterMap (es[·]?)).toList.map (·.1))/\t'.plain=t.plain/\t'.led=t.led/\5*es.size<3*t'.mask/\sizeAbove (grown es.size)<=512:=by
 have sz:t.place.size=es.size:=by rw[T.size];simp
 have f1:3*t.mask<=5*es.size:=by
  unfold SetTable.tooFull SetTable.fill at full;rw[T.dum,sz] at full;simp at full;omega
 rfl';obtain⟨g1,g2,g3,g4⟩:=CY T.few f1 near small;obtain⟨t',order,e,em,el,ep,_,pm,tk⟩:=Jk g1 (es.toList.map (·.1)) (by simpa using g3) t.finger (t.movedTo (sizeAbove (grown es.size)-1)) t.led t.plain
 rw[aI,n9] at pm;ac_rfl
 have pf:(order.filterMap (es[·]?)).toList.Perm es.toList:=by
  rw[Array.toList_filterMap];exact(pm.filterMap _).trans (by rw[filterMap_getElem?_range])
 have sf:(order.filterMap (es[·]?)).size=es.size:=by rw[<-n9,pf.length_eq,n9]
 refine⟨t',order,?_,pm,pf,sf,?_,ep,el,by rw[em];exact g2,g4⟩
 ·unfold SetTable.relaid
  rw[show es.map (·.1)=(es.toList.map (·.1)).toArray by apply Array.toList_inj.mp;simp]
  exact e
 ·have:(order.filterMap (es[·]?)).toList.map (·.1)=order.toList.map λk=>(es.toList.map (·.1)).getD k 0:=by
   rw[Array.toList_filterMap];have lt:∀k∈order.toList,k<es.size:=λk hk=>eJ.mp (pm.mem_iff.mp hk);generalize order.toList=l at lt
   induction l with
   |nil=>rfl
   |cons k l ih=>
    have hk:=lt k (cw ..);rw[List.filterMap_cons_some (b:=es[k]) (by simp[hk]),j0,j0,ih λj hj=>lt j (b8 _ hj)]
    simp[hk]
  rw[this];exact tk
end PySem
set_option maxHeartbeats 1000000
namespace PySem
open SetTable PyProof.Rows
section
variable {prog:Program} {w:World} {A:Around} {E:Value->Shared->Prop} {s:Shared}
theorem t7{h:Heap}{a:Addr}{o:Obj}{es:Array (Int×Value)}{ep:Nat}{t:SetTable}(ho:h.get? a=some o)(hd:o.data= .set es ep t)(mX:Array (Int×Value))(t':SetTable):
  (h.update a (Obj.putSet mX t')).get? a=some {o with data:= .set mX (ep+1) t'}:=by
 have:=Heap.get?_update_self (Obj.putSet mX t') ho (by rw[putSet_of mX t' hd];rfl)
 rw[putSet_of mX t' hd] at this;exact this
theorem vm{Q₁:Value->Shared->Prop}
  (h:Q₁ (.ref s.heap.objs.size) {s with heap:=s.heap.push {cls:= .type "set",dict:=none,data:= .set #[] 0 (.fresh 0 0 (!fX w))}}):
  codeAny (model prog w) A (.call (.builtin "set.__new__") ⟨[.type "set"],[]⟩) (wants Q₁ E) s:=by
 refine codeAny_of_tree ?_;refine wpAny_bind (wpAny_of_eq F.newCall_set_0 (wpAny_pure ⟨plainId_quiet F.plain_set_new _,codeAny_builtin F.entry_set_new ?_⟩));rw[Around.under_plainId F.plain_set_new _];unfold Builtin.«set.__new__» Builtin.Frozenset.newClass;have OG:=sub_set_self;obtain⟨hp,g,d,tk,os⟩:=s;dsimp only
 wp_walk
 refine wpAny_askSetting (wpAny_pure ?_);dsimp only;simp only[newObj];refine wpAny_bind (wpAny_alloc (wpAny_pure ?_));exact wpAny_pure h
theorem zC{Q:Value->Shared->Prop}
  (h:Q (.ref s.heap.objs.size) {s with heap:=s.heap.push {cls:= .type "set",dict:=none,data:= .set #[] 0 (.fresh 0 0 (!fX w))}}):
  wpAny (model prog w) A (call (.type "set") []) Q E s:=by
 obtain⟨c,tl,aax⟩:=F.called_set.mro;have aat:=F.called_set.made;have OG:=F.called_set.sub;refine wpAny_call (codeAny_of_tree ?_);show wpAny _ _ (callAny (.type "set") _) _ _ _;refine wpAny_pure ⟨Code.quiet_builtin _ (by decide+kernel),codeAny_builtin F.entry_type_call ?_⟩
 rw[Around.under_plain (weight_type_call_type "set" [] []) rfl];have h1:=F.called_set.notType;have h2:=F.called_set.canCreate;have hct:=F.typeCall_set_0
 repeat (any_goals (first|assumption|wp_step))
 refine codeAny_mono (vm (E:=E) (Q₁:=λobj s₁=>obj= .ref s.heap.objs.size/\s₁={s with heap:=s.heap.push {cls:= .type "set",dict:=none,data:= .set #[] 0 (.fresh 0 0 (!fX w))}}) ⟨rfl,rfl⟩) λr s₁ hr=>?_
 cases r with
 |error e=>exact hr
 |ok fl=>
  cases fl with
  |ret obj=>
   obtain⟨rfl,rfl⟩:=hr;have hS:(s.heap.push {cls:= .type "set",dict:=none,data:= .set #[] 0 (.fresh 0 0 (!fX w))}).get? s.heap.objs.size=some {cls:= .type "set",dict:=none,data:= .set #[] 0 (.fresh 0 0 (!fX w))}:=Heap.get?_push_size _ rfl;have hT:Shared.TypeIs {s with heap:=s.heap.push {cls:= .type "set",dict:=none,data:= .set #[] 0 (.fresh 0 0 (!fX w))}} (.ref s.heap.objs.size) "set":=⟨_,hS,rfl⟩
   have hli:=F.called_set.init.lookup;have hbi:=F.called_set.init.bind (.ref s.heap.objs.size)
   repeat (any_goals (first|assumption|wp_step))
   refine codeAny_mono (codeAny_call_builtin (R:=wants (λr Ft=>r= .none/\Q (.ref s.heap.objs.size) Ft) E) F.called_set.init.plain F.entry_set_init (check_set_init hT ?_)) λZl Ft Df=>?_
   ·unfold Builtin.«set.__init__» noKeywords
    wp_walk
    exact⟨rfl,h⟩
   ·cases Zl with
    |error e=>exact Df
    |ok Qn=>
     cases Qn with
     |ret r=>
      obtain⟨rfl,hq⟩:=Df
      repeat (any_goals (first|assumption|wp_step))
     |_=>exact Df.elim
  |_=>exact hr.elim
theorem lW.new(w:World):lW (fX w) {cls:= .type "set",dict:=none,data:= .set #[] 0 (.fresh 0 0 (!fX w))} #[] 0 (.fresh 0 0 (!fX w)) where
 ex:=⟨rfl,rfl,rfl⟩
 dat:=rfl
 tok:=⟨.inl rfl,rfl,λi j hj=>by simp[SetTable.fresh] at hj,rfl,λi j h=>by simp[SetTable.fresh] at h,by simp[SetTable.fresh],λi h e=>by simp at e⟩
 pl:=rfl
 ld:=rfl
 few:=by simp[SetTable.fresh]
end
section
variable {prog:Program} {w:World} {A:Around} {E:Value->Shared->Prop} {s:Shared}
theorem ItemsAre.ints{ks:List Int}{vs:List Value}(h:ItemsAre (intKind prog w) ks vs):∀v∈vs,∃i t,v= .int i t:=by
 induction h with
 |nil=>intro v hv;simp at hv
 | @cons k v' ks vs h1 _ ih=>
  intro v hv
  rcases cD.mp hv with rfl|hv
  ·obtain⟨t,rfl⟩:=Value.isInt_shape h1
   exact⟨k,t,rfl⟩
  ·exact ih v hv
theorem nZ{ks:List Int}{a:Addr}{Q:Bool->Shared->Prop}(hk:IsTupleKey (intKind prog w) s.heap ks a)(h:Q false s):wpAny (model prog w) A (ofAClassStatement 8 (.ref a)) Q E s:=by
 have hT:=hk.typeIs;obtain⟨o,items,n,ho,_,hd,hi⟩:=hk;unfold ofAClassStatement;refine wpAny_bind (wpAny_typeOf hT ?_);dsimp only;simp only[beq_self_eq_true, ↓reduceIte];refine wpAny_bind (wpAny_pure ?_);simp only[Bool.not_true,gL, ↓reduceIte];refine wpAny_bind (wpAny_seqItems ho hd ?_);dsimp only;refine wpAny_bind ?_;rw[<-Array.forIn_toList];refine wpAny_forIn_list _ (λrest r s'=>r.1=none/\s'=s/\∀v∈rest,∃i t,v=Value.int i t) _ ?_ ?_ _ _ ⟨rfl,rfl,hi.ints⟩
 ·rintro v rest r s' ⟨hr,rfl,je⟩
  obtain⟨i,t,rfl⟩:=je v cw;refine wpAny_bind (wpAny_of_eq (show ofAClassStatement 7 (.int i t)=pure false from by unfold ofAClassStatement;rfl) ?_)
  simp only[gL,if_false];exact wpAny_pure ⟨rfl,rfl,λu Dh=>je u (b8 _ Dh)⟩
 ·rintro⟨r1,r2⟩ s' ⟨hr,rfl,_⟩
  simp only at hr;subst hr;exact wpAny_pure h
theorem Ck{ks:List Int}{b:Addr}{Q:Bool->Shared->Prop}(hk:IsTupleKey (intKind prog w) s.heap ks b)(stored:List Value)(hs:∀y∈stored,∃k' a,y=Value.ref a/\IsTupleKey (intKind prog w) s.heap k' a)(h:Q false s):
  wpAny (model prog w) A (searchCouldBeSeen (.ref b) stored) Q E s:=by
 unfold searchCouldBeSeen;refine wpAny_bind ?_;refine wpAny_forIn_list _ (λrest r s'=>r.1=none/\s'=s/\∀y∈rest,∃k' a,y=Value.ref a/\IsTupleKey (intKind prog w) s.heap k' a) _ ?_ ?_ _ _ ⟨rfl,rfl,hs⟩
 ·rintro y rest r s' ⟨hr,rfl,je⟩
  obtain⟨k',a,rfl,gS⟩:=je y cw;have tl:∀y∈rest,∃k' a,y=Value.ref a/\IsTupleKey (intKind prog w) s'.heap k' a:=λy hy=>je y (b8 _ hy);have e:(carriedByValue (Value.ref b)&&carriedByValue (Value.ref a))=false:=by simp[carriedByValue]
  dsimp only;rw[e,Bool.or_false]
  by_cases c:(b==a)=true
  ·rw[if_pos c]
   exact wpAny_pure ⟨rfl,rfl,tl⟩
  ·rw[if_neg c]
   refine wpAny_bind (wpAny_eqIsQuiet_tuple hk ?_);simp only[Bool.not_true,gL,if_false];refine wpAny_bind (wpAny_eqIsQuiet_tuple gS ?_);simp only[Bool.not_true,gL,if_false];refine wpAny_bind (nZ hk ?_);simp only[gL,if_false];refine wpAny_bind (nZ gS ?_);simp only[gL,if_false];exact wpAny_pure ⟨rfl,rfl,tl⟩
 ·rintro⟨r1,r2⟩ s' ⟨hr,rfl,_⟩
  simp only at hr;subst hr;exact wpAny_pure h
theorem x9{ks:List Int}{a:Addr}{Q:Bool->Shared->Prop}(hk:IsTupleKey (intKind prog w) s.heap ks a)(h:Q true s):wpAny (model prog w) A (hashByValue 8 (.ref a)) Q E s:=by
 rfl';have hT:=hk.typeIs;obtain⟨o,items,n,ho,_,hd,hi⟩:=hk;ac_rfl;unfold hashByValue;refine wpAny_bind (wpAny_specialOf hT F.slot_tuple_hash.lookup ?_);dsimp only;refine wpAny_bind (wpAny_seqItems ho hd ?_);refine wpAny_bind ?_;show wpAny _ _ (forIn items _ _) _ _ s;rw[<-Array.forIn_toList];refine wpAny_forIn_list _ (λrest r s'=>r.1=none/\s'=s/\∀v∈rest,∃i t,v=Value.int i t) _ ?_ ?_ _ _ ⟨rfl,rfl,hi.ints⟩
 ·rintro v rest r s' ⟨hr,rfl,je⟩
  obtain⟨i,t,rfl⟩:=je v cw;refine wpAny_bind (wpAny_of_eq (show hashByValue 7 (.int i t)=pure true from by unfold hashByValue;rfl) ?_)
  simp only[Bool.not_true,gL,if_false];exact wpAny_pure ⟨rfl,rfl,λu Dh=>je u (b8 _ Dh)⟩
 ·rintro⟨r1,r2⟩ s' ⟨hr,rfl,_⟩
  simp only at hr;subst hr;exact wpAny_pure h
def Hx(prog:Program)(w:World)(h:Heap)(es:Array (Int×Value)):Prop:=∀(i:Nat)(e:Int×Value),es[i]? =some e->∃k a,e=(tupleKeyHash (intKind prog w) k, .ref a)/\IsTupleKey (intKind prog w) h k a
def KP(es:Array (Int×Value))(i:Nat):Int:=(es[i]?.map (·.1)).getD 0
theorem Iu{m:Nat}(h:ug m):m%2=1:=by rcases h with rfl|rfl|rfl|rfl<;>rfl
theorem y8{xs:Array Nat}(R:mO xs){i j v:Nat}(hi:xs[i]? =some v)(hj:xs[j]? =some v):i=j:=by
 rw[<-below_at R hi,<-below_at R hj]
theorem pz{a:Addr}{o:Obj}{es:Array (Int×Value)}{ep:Nat}{t:SetTable}{b:Addr}{ks:List Int}{fA:Bool}{Q:SetFound->Shared->Prop}(hu:A.units<cLine)(ho:s.heap.get? a=some o)(S:lW (fX w) o es ep t)(P:Hx prog w s.heap es)(hk:IsTupleKey (intKind prog w) s.heap ks b)
  (LN:(∃(i:Nat)(c:Addr),es[i]? =some (tupleKeyHash (intKind prog w) ks, .ref c)/\IsTupleKey (intKind prog w) s.heap ks c)->∀r:Option Nat,(fA=false->r.isSome=true)->Q (.there r) s)
  (zU:(∀(i:Nat)(e:Int×Value),es[i]? =some e->∀c,e.2= .ref c->¬IsTupleKey (intKind prog w) s.heap ks c)->∀k0,(∀i:Nat,t.place[i]? ≠some (bS t.mask (tupleKeyHash (intKind prog w) ks) k0))->(∀k',k'<k0->∃i:Nat,t.place[i]? =some (bS t.mask (tupleKeyHash (intKind prog w) ks) k'))->
   Q (.free (bS t.mask (tupleKeyHash (intKind prog w) ks) k0) false) s):
  wpAny (model prog w) A (setSearch a (.ref b) (tupleKeyHash (intKind prog w) ks) fA) Q E s:=by
 generalize hh:tupleKeyHash (intKind prog w) ks=h at*;have T:=S.tok;obtain⟨s0,hs0,VL⟩:=T.empty;obtain⟨K,hK,eK⟩:=meets T.few (sq.start t.mask h) hs0;have eK:bS t.mask h K=s0:=by unfold bS;rw[lP];exact eK
 have kb:K<6000:=by
  have:10*turns t.mask<=5260:=by
   rcases T.few with e|e|e|e<;>rw[e]<;>decide
  omega
 have sz:t.place.size=es.size:=by rw[T.size];simp
 have hN:(t.mask%2==0)=false:=by rw[Iu T.few];rfl
 have main:∀(n:Nat)(k:Nat)(fuel:Nat)(wH:Option Probe),K+1-k<=n->n<fuel->k<=K->wH.getD (t.probeStart h)=qk t.mask h k->(∀k',k'<k->∃i:Nat,t.place[i]? =some (bS t.mask h k'))->
   (∀(i:Nat) c,es[i]? =some (h, .ref c)->IsTupleKey (intKind prog w) s.heap ks c->∀kx,t.place[i]? =some (bS t.mask h kx)->k<=kx)->
   wpAny (model prog w) A (setSearchFrom a (.ref b) h fA fuel wH) Q E s:=by
  intro n
  induction n with
  |zero=>intro k fuel wH h1 h2 h3;omega
  |succ n ih=>
   intro k fuel wH h1 h2 h3 h4 h5 h6;obtain⟨f,rfl⟩:∃f,fuel=f+1:=⟨fuel-1,by omega⟩
   unfold setSearchFrom;refine wpAny_bind (wpAny_setState_of ho S.dat S.fits ?_);dsimp only;unfold SetTable.gaveWay;rw[hN];simp only[gL,if_false]
   have Vz:∀(i:Nat)(e:Int×Value),es[i]? =some e->KP es i=e.1:=λi e hi=>by
    show(es[i]?.map (·.1)).getD 0=e.1;rw[hi];rfl
   generalize hq:t.probe _ h (wH.getD (t.probeStart h))=r;have hq:t.probe (KP es) h (qk t.mask h k)=r:=by rw[<-h4];exact hq
   generalize KP es=hA at Vz hq;obtain⟨k0,hk0,hp,alt⟩:=TOk.probe T hA h k
   have k0K:k0<=K:=by
    apply Classical.byContradiction;intro c;obtain⟨i,hi,_⟩:=hp K h3 (by omega)
    rw[eK] at hi;exact VL i hi
   have Mn:∀k',k'<k0->∃i:Nat,t.place[i]? =some (bS t.mask h k'):=λk' h'=>by
    by_cases c:k'<k
    ·exact h5 k' c
    ·obtain⟨i,hi,_⟩:=hp k' (by omega) h'
     exact⟨i,hi⟩
   have later:∀(i:Nat) c,es[i]? =some (h, .ref c)->IsTupleKey (intKind prog w) s.heap ks c->∀kx,t.place[i]? =some (bS t.mask h kx)->k0<=kx:=λi c hi hc kx Dd=>by
    have hkx:=h6 i c hi hc kx Dd;apply Classical.byContradiction;intro z;obtain⟨i',iP,sO⟩:=hp kx hkx (by omega)
    have:i=i':=y8 T.rise Dd iP
    subst this;exact sO (Vz i _ hi)
   rcases alt with ⟨IM,ep⟩ | ⟨i,hi,hhi,ep⟩
   ·rw[ep] at hq
    subst hq;dsimp only;refine wpAny_pure (zU (λi e hi c hc VS=>?_) k0 IM Mn);obtain⟨k',a',e1,gS⟩:=P i e hi;subst e1;cases hc
    have:k'=ks:=gS.inj VS
    subst this;rw[hh] at hi;obtain⟨ky,We,hy2⟩:=T.path i h (by rw[cL,jX,hi];rfl)
    have lt:=later i _ hi VS ky We
    by_cases c1:k0<ky
    ·obtain⟨i',iP⟩:=hy2 k0 c1
     exact IM i' iP
    ·have:ky=k0:=by omega
     subst this;exact IM i We
   ·rw[ep] at hq
    subst hq;dsimp only
    have Wj:i<es.size:=by
     have:=(w6.mp hi).1
     omega
    obtain⟨k',c,e1,gS⟩:=P i es[i] (zk Wj);have ei:es[i]? =some (tupleKeyHash (intKind prog w) k', .ref c):=by rw[zk Wj,e1]
    have rest:wpAny (model prog w) A (match es[i]? with
      |some (fst,y)=>do
       let equal <-holding [y] (eqBool y (Value.ref b))
       let __x <-setState a
       if (fA&&equal)=true then pure (SetFound.there none)
        else
         match __x.2.snd.sameMemory t.moves t.mask with
         |some same=>
          match if same=true then __x.2.snd.slot (bS t.mask h k0) else Slot.empty with
          |Slot.live i'=>
           match __x.fst[i']? with
           |some (fst,y')=>do
            let __do_lift <-isSame y' y
            let wI <-pure (if __do_lift=true then some i' else none)
            match wI with
             |none=>do
              rule "set.search.anew"
              setSearchFrom a (Value.ref b) h fA f none
             |some i'=>
              if equal=true then pure (SetFound.there (some i'))
              else setSearchFrom a (Value.ref b) h fA f (some (qk t.mask h (k0+1)))
           |none=>do
            let wI <-pure none
            match wI with
             |none=>do
              rule "set.search.anew"
              setSearchFrom a (Value.ref b) h fA f none
             |some i'=>
              if equal=true then pure (SetFound.there (some i'))
              else setSearchFrom a (Value.ref b) h fA f (some (qk t.mask h (k0+1)))
          |x=>do
           let wI <-pure none
           match wI with
            |none=>do
             rule "set.search.anew"
             setSearchFrom a (Value.ref b) h fA f none
            |some i'=>
             if equal=true then pure (SetFound.there (some i'))
             else setSearchFrom a (Value.ref b) h fA f (some (qk t.mask h (k0+1)))
         |x=>unsupported "set.changed-during-lookup:is-the-new-block-at-the-old-address"
      |x=>unsupported "internal:set-entry") Q E s:=by
     rw[ei];dsimp only;refine wpAny_bind (wpAny_holding (wpAny_eqBool_tuple hu gS hk ?_));refine wpAny_bind (wpAny_setState_of ho S.dat S.fits ?_);dsimp only;have sm:t.sameMemory t.moves t.mask=some true:=by unfold SetTable.sameMemory;simp
     have sO:k'≠ks->wpAny (model prog w) A (setSearchFrom a (Value.ref b) h fA f (some (qk t.mask h (k0+1)))) Q E s:=λne=>by
      by_cases kk:k0=K
      ·subst kk
       rw[eK] at hi;exact absurd hi (VL i)
      refine ih (k0+1) f _ (by omega) (by omega) (by omega) rfl (λL4 h''=>?_) λi' c' iP oP kx Dd=>?_
      ·by_cases z:L4=k0
       ·subst z;exact⟨i,hi⟩
       ·exact Mn L4 (by omega)
      ·have l1:=later i' c' iP oP kx Dd
       have:kx≠k0:=λz=>by
        subst z
        have:i'=i:=y8 T.rise Dd hi
        subst this;rw[ei] at iP;cases iP;exact ne (gS.inj oP)
       omega
     have there:k'=ks->∀r:Option Nat,(fA=false->r.isSome=true)->Q (.there r) s:=λe=>by
      subst e;rw[hh] at ei;exact LN ⟨i,c,ei,gS⟩
     by_cases e:k'=ks
     ·rw[decide_eq_true e,Bool.and_true]
      cases fA with
      |true=>exact wpAny_pure (there e none λz=>absurd z (by decide))
      |false=>
       simp only[gL,if_false];rw[sm];dsimp only;rw[if_pos rfl,qj T.rise hi];dsimp only;rw[ei];dsimp only;refine wpAny_bind (wpAny_isSame_ref_self ?_);refine wpAny_bind (wpAny_pure ?_);simp only[if_true];exact wpAny_pure (there e (some i) λ_=>rfl)
     ·rw[decide_eq_false e,Bool.and_false]
      simp only[gL,if_false];rw[sm];dsimp only;rw[if_pos rfl,qj T.rise hi];dsimp only;rw[ei];dsimp only;refine wpAny_bind (wpAny_isSame_ref_self ?_);refine wpAny_bind (wpAny_pure ?_);simp only[if_true];exact sO e
    by_cases led:(!t.led)=true
    ·rw[if_pos led]
     refine wpAny_bind (Ck hk _ (λy hy=>?_) ?_)
     ·obtain⟨e,he,rfl⟩:=dE.mp hy
      have he:=(Array.mem_filter.mp (Array.mem_toList_iff.mp he)).1;obtain⟨i',iP,rfl⟩:=Array.mem_iff_getElem.mp he;obtain⟨L4,c',e1,VR⟩:=P i' es[i'] (zk iP);exact⟨L4,c',by rw[e1],VR⟩
     ·simp only[gL,if_false]
      exact rest
    ·rw[if_neg led]
     exact rest
 refine main (K+1) 0 100000 none (br _) (by omega) (cI _) rfl (λk' h'=>by omega) λi c hi hc kx _=>cI _
end
section
variable {prog:Program} {w:World} {A:Around} {E:Value->Shared->Prop} {s:Shared}
theorem tK(b:Addr)(es:Array (Int×Value)):byScan (.ref b) es=false:=rfl
theorem xZ{a:Addr}{o:Obj}{es:Array (Int×Value)}{ep:Nat}{t:SetTable}{b:Addr}{ks:List Int}{Q:Option Nat->Shared->Prop}(hu:A.units<cLine)(ho:s.heap.get? a=some o)(S:lW (fX w) o es ep t)(P:Hx prog w s.heap es)(hk:IsTupleKey (intKind prog w) s.heap ks b)
  (hy:(∃(i:Nat)(c:Addr),es[i]? =some (tupleKeyHash (intKind prog w) ks, .ref c)/\IsTupleKey (intKind prog w) s.heap ks c)->∀r:Option Nat,r.isSome=true->Q r s)
  (hn:(∀(i:Nat)(e:Int×Value),es[i]? =some e->∀c,e.2= .ref c->¬IsTupleKey (intKind prog w) s.heap ks c)->Q none s):
  wpAny (model prog w) A (setFind a (.ref b) (tupleKeyHash (intKind prog w) ks)) Q E s:=by
 unfold setFind setFindIn;refine wpAny_bind (wpAny_setState_of ho S.dat S.fits ?_);dsimp only;rw[tK];simp only[gL,if_false];refine wpAny_bind (pz hu ho S P hk (λh r hr=>?_) λh k0 _ _=>?_)
 ·exact wpAny_pure (hy h r (hr rfl))
 ·exact wpAny_pure (hn h)
theorem Ax{a:Addr}{o:Obj}{es:Array (Int×Value)}{ep:Nat}{t:SetTable}{b:Addr}{ks:List Int}{Q:Bool->Shared->Prop}(hu:A.units<cLine)(ho:s.heap.get? a=some o)(S:lW (fX w) o es ep t)(P:Hx prog w s.heap es)(hk:IsTupleKey (intKind prog w) s.heap ks b)(room:es.size<=305)
  (hy:(∃(i:Nat)(c:Addr),es[i]? =some (tupleKeyHash (intKind prog w) ks, .ref c)/\IsTupleKey (intKind prog w) s.heap ks c)->Q false s)
  (hn:(∀(i:Nat)(e:Int×Value),es[i]? =some e->∀c,e.2= .ref c->¬IsTupleKey (intKind prog w) s.heap ks c)->∀h' o' mX CT t',Heap.SameBut a s.heap h'->h'.get? a=some o'->lW (fX w) o' mX CT t'->mX.toList.Perm (es.toList++ [(tupleKeyHash (intKind prog w) ks, .ref b)])->Q true {s with heap:=h'}):
  wpAny (model prog w) A (setAddHashed a (.ref b) (tupleKeyHash (intKind prog w) ks)) Q E s:=by
 have hd:=S.dat;have hf:=S.fits;have T:=S.tok;have sz:t.place.size=es.size:=by rw[T.size];simp
 unfold setAddHashed setAddHashedIn;refine wpAny_holding (wpAny_bind (wpAny_setState_of ho hd hf ?_));dsimp only;rw[tK];simp only[gL,if_false];refine wpAny_bind (pz hu ho S P hk (λh r hr=>?_) λh k0 emp Mn=>?_)
 ·exact wpAny_pure (hy h)
 ·dsimp only
  refine wpAny_bind (wpAny_setState_of ho hd hf ?_);dsimp only;obtain⟨p1,p2,p3⟩:=TOk.put T emp Mn (by rw[sz];exact F4 T.few S.few)
  rw[p1]
  have e:(SetTable.insertAt es (below t.place (bS t.mask (tupleKeyHash (intKind prog w) ks) k0)) (tupleKeyHash (intKind prog w) ks,Value.ref b)).toList.map (·.1)=(es.toList.map (·.1)).take (below t.place (bS t.mask (tupleKeyHash (intKind prog w) ks) k0))++tupleKeyHash (intKind prog w) ks::(es.toList.map (·.1)).drop (below t.place (bS t.mask (tupleKeyHash (intKind prog w) ks) k0)):=by
   rw[SetTable.toList_insertAt];simp
  rw[<-e] at p3;have pl:(t.put (bS t.mask (tupleKeyHash (intKind prog w) ks) k0)).1.plain=true:=S.pl;have ld:(t.put (bS t.mask (tupleKeyHash (intKind prog w) ks) k0)).1.led= !fX w:=S.ld;have mk:(t.put (bS t.mask (tupleKeyHash (intKind prog w) ks) k0)).1.mask=t.mask:=rfl;generalize hx:((tupleKeyHash (intKind prog w) ks,Value.ref b):Int×Value)=x at*;generalize hp:below t.place (bS t.mask (tupleKeyHash (intKind prog w) ks) k0)=p at*;generalize (t.put (bS t.mask (tupleKeyHash (intKind prog w) ks) k0)).1=t1 at*;rw[if_pos pl];refine wpAny_bind (x9 hk ?_);simp only[if_true,Bool.not_false,xo];have xY:(SetTable.insertAt es p x).size=es.size+1:=SetTable.gy ..;have J7:=SetTable.insertAt_perm es p x;rw[Array.toList_push] at J7;refine wpAny_bind (wpAny_storeSet_of ho hd ?_ (by rw[xY];refine fits_of_scanBound ?_;show es.size+1<4096;omega))
  have vG:=t7 ho hd (SetTable.insertAt es p x) t1;have Zo:=Heap.SameBut.update s.heap a (Obj.putSet (SetTable.insertAt es p x) t1)
  have ft1:t1.fits (SetTable.insertAt es p x).size=true:=by
   have:=TOk.fits p3
   rw[aI,n9] at this;exact this
  by_cases full:t1.tooFull=true
  ·rw[if_pos full]
   refine ah λG0 k0=>?_;obtain⟨t2,order,eR,_,pf,sf,T2,MO,l2,f2,Zm⟩:=Ec p3 full (by rw[xY,mk];have:=S.few;omega) (by rw[xY];omega)
   refine k0 ?_;rw[xY] at eR f2 Zm;refine wpAny_bind ?_;unfold setRelay;refine wpAny_bind (wpAny_setState_of vG rfl ft1 ?_);dsimp only;have big:512<=sizeLine:=by decide
   rw[if_neg (by omega),eR]
   have Z3:(order.filterMap ((SetTable.insertAt es p x)[·]?)).size=es.size+1:=by rw[sf,xY]
   refine wpAny_bind (wpAny_of_eq (a:=(order.filterMap ((SetTable.insertAt es p x)[·]?),t2)) ?_ ?_)
   ·show(if ((order.filterMap ((SetTable.insertAt es p x)[·]?)).size !=(SetTable.insertAt es p x).size)=true then _ else pure (order.filterMap ((SetTable.insertAt es p x)[·]?),t2))=_
    rw[if_neg (by rw[sf];simp)]
   ·dsimp only
    refine wpAny_storeSet_of vG rfl ?_ (by rw[Z3];refine fits_of_scanBound ?_;show es.size+1<4096;omega)
    have sP:=t7 vG rfl (order.filterMap ((SetTable.insertAt es p x)[·]?)) t2;exact wpAny_pure (hn h _ _ _ _ t2 (Zo.trans (Heap.SameBut.update _ a _)) sP ⟨S.ex,rfl,T2,by rw[MO];exact pl,by rw[l2];exact ld,by rw[Z3];exact f2⟩ (pf.trans J7))
  ·rw[if_neg full]
   refine wpAny_pure (hn h _ _ _ _ t1 Zo vG ⟨S.ex,rfl,p3,pl,ld,?_⟩ J7);have ff:t1.tooFull=false:=by simpa using full
   unfold SetTable.tooFull SetTable.fill at ff;rw[p3.dum,p3.size] at ff;simp at ff;omega
variable {a b:Addr} {o:Obj} {es:Array (Int×Value)} {ep:Nat} {t:SetTable} {ks:List Int}
open Classical in
noncomputable def m7(prog:Program)(w:World)(h:Heap)(es:Array (Int×Value))(ks:List Int):Bool:=decide (∃(i:Nat)(c:Addr),es[i]? =some (tupleKeyHash (intKind prog w) ks, .ref c)/\IsTupleKey (intKind prog w) h ks c)
theorem II(h:∀(i:Nat)(e:Int×Value),es[i]? =some e->∀c,e.2= .ref c->¬IsTupleKey (intKind prog w) s.heap ks c):m7 prog w s.heap es ks=false:=by
 classical
 unfold m7;exact decide_eq_false λ⟨i,c,h1,h2⟩=>h i _ h1 c rfl h2
theorem Ge(h:∃(i:Nat)(c:Addr),es[i]? =some (tupleKeyHash (intKind prog w) ks, .ref c)/\IsTupleKey (intKind prog w) s.heap ks c):m7 prog w s.heap es ks=true:=by
 classical
 unfold m7;exact decide_eq_true h
theorem rX{Q:Bool->Shared->Prop}(hu:A.units+64<cLine)(ho:s.heap.get? a=some o)(S:lW (fX w) o es ep t)(P:Hx prog w s.heap es)(hk:IsTupleKey (intKind prog w) s.heap ks b)
  (h:∀tk,Q (m7 prog w s.heap es ks) {s with toks:=tk}):wpAny (model prog w) A (contains (.ref a) (.ref b)) Q E s:=by
 have hT:s.TypeIs (.ref a) "set":=⟨o,ho,S.ex.1⟩;unfold contains
 try with_reducible refine wpAny_holding ?_
 refine wpAny_bind (wpAny_specialOf hT F.slot_set_contains.lookup ?_);show wpAny _ _ (if (some (Value.builtin "set.__contains__")==some Value.none)=true then _ else _) _ E s;rw[if_neg (by rw[beq_builtin_none];exact cB)]
 refine wpAny_bind (wpAny_callSpecialUnlessNone?_slot (name:=Str.ofString "__contains__") hT F.slot_set_contains
  (wpAny_call_entry F.slot_set_contains hT entry_set_contains ?_ (F.args_set_contains_2 _ _)))
 unfold Builtin.«frozenset.__contains__» Builtin.Frozenset.oneOther;simp only[List.isEmpty_nil,bind_assoc];unfold Builtin.Frozenset.addrOf Builtin.Frozenset.withSetAsKey setContains;refine wpAny_bind (wpAny_pure ?_)
 try dsimp only
 refine wpAny_bind (wpAny_pure ?_)
 try dsimp only
 refine wpAny_bind (wpAny_tryCatch ?_);refine wpAny_holding ?_;refine wpAny_bind (wpAny_pyHash_tuple ?_ hk ?_)
 ·show A.units+1<cLine;omega
 refine wpAny_bind (xZ (s:={s with toks:=s.toks+(ks.length+1)}) ?_ ho S P hk (λhy r hr=>?_) λhn=>?_)
 ·show A.units+1<cLine;omega
 ·refine wpAny_pure ?_
  show wpAny _ _ (ret (Value.bool r.isSome)) _ _ _;rw[hr]
  have:=h (s.toks+(ks.length+1))
  rw[Ge hy] at this;exact wpAny_pure ⟨_,rfl,wpAny_truthy_bool this⟩
 ·refine wpAny_pure ?_
  have:=h (s.toks+(ks.length+1))
  rw[II hn] at this;exact wpAny_pure ⟨_,rfl,wpAny_truthy_bool this⟩
end
end PySem
set_option maxHeartbeats 4000000
namespace L2
open PySem PySem.Spec PyProof.Rows
inductive FV where
 |int (i:Int) |bl (b:Bool)
inductive XD where
 |rE (b:Bool) (ps:List (Int×Int)) |OQ (ks:List (Int×Int)) (vs:List FV)
inductive D where
 |aZ|bl (b:Bool) |int (i:Int) |str (x:Str) |lst (l:List D) |tup (l:List D) |lN (ns:List Int) |rng (lo hi:Int) |obj (a:Addr) |fk (w:List (List Nat)) |set (b:Bool) (l:List Int) |x (k:XD) |err (C:Addr) (ks:List Str) (l:List D)
structure DC where
 K:PySem.W.Frag
 C:Addr
def ag(n:Nat):D:= .int n
def av(r:List Nat):D:= .lst (r.map ag)
def ay(w:List (List Nat)):D:= .lst (w.map av)
def Si(es:Array (Int×Value))(ns:List Int):Prop:=(∀e∈es.toList,∃k t,e=(hashInt k,Value.int k t))/\ns.Nodup/\∃ms,IntsAre (es.toList.map (·.2)) ms/\ms.Perm ns
def NA(b:Bool)(a:Addr)(ns:List Int)(h:Heap):Prop:=∃o es ep t,h.get? a=some o/\lW b o es ep t/\Si es ns
def gn(p:Int×Int):Int:=reduceHash (Builtin.Tuple.tupleHashOf [hashInt p.1,hashInt p.2])
inductive i8 (H:Hp):List (Int×Addr)->List (Int×Int)->Prop
 |nil:i8 H [] []
 |cons {a:Addr} {p:Int×Int} {es:List (Int×Addr)} {ps:List (Int×Int)}:H a=some (.tup [.int p.1, .int p.2])->i8 H es ps->i8 H ((gn p,a)::es) (p::ps)
theorem i8.mono{H H':Hp}(s:aM H H'):∀{es:List (Int×Addr)}{ps:List (Int×Int)},i8 H es ps->i8 H' es ps
 |_,_, .nil=> .nil
 |_,_, .cons h t=> .cons (s _ _ h) (t.mono s)
def fq(b:Bool)(a:Addr)(es:List (Int×Addr))(h:Heap):Prop:=∃o eA ep t,h.get? a=some o/\lW b o eA ep t/\eA.toList.Perm (es.map λe=>(e.1,Value.ref e.2))
def FvV:FV->Value->Prop
 | .int i,v=>∃t,v= .int i t
 | .bl b,v=>v= .bool b
inductive K7:List DictEntry->List (Int×Addr)->List FV->Prop
 |nil:K7 [] [] []
 |cons {e:DictEntry} {l:List DictEntry} {h:Int} {a:Addr} {v:FV} {es:List (Int×Addr)} {vs:List FV}:e.hash=h->e.key= .ref a->FvV v e.val->K7 l es vs->K7 (e::l) ((h,a)::es) (v::vs)
def O6(a:Addr)(es:List (Int×Addr))(vs:List FV)(h:Heap):Prop:=(a==sysModules)=false/\∃o eA ep,h.get? a=some o/\o.ExactDict/\o.data= .dict eA ep/\K7 eA.toList es vs
def FE(H:Hp)(a:Addr)(φ:Heap->Prop):XD->Prop
 | .rE b ps=>ps.Nodup/\∃es,φ=fq b a es/\i8 H es ps
 | .OQ ks vs=>ks.Nodup/\∃es,φ=O6 a es vs/\i8 H es ks
theorem FE.mono{H H':Hp}(s:aM H H'){a:Addr}{φ:Heap->Prop}:∀{k:XD},FE H a φ k->FE H' a φ k
 | .rE _ _,⟨n,es,e,p⟩=>⟨n,es,e,p.mono s⟩
 | .OQ _ _,⟨n,es,e,p⟩=>⟨n,es,e,p.mono s⟩
def La(H:Hp)(od:Option Addr)(ks:List Str)(xs:List V):Prop:=(od=none/\ks= []/\xs= [])\/∃dx,od=some dx/\H dx=some (XdO dx (ks.zip xs))/\ks.length=xs.length
theorem La.mono{H H':Hp}(s:aM H H'){od:Option Addr}{ks:List Str}{xs:List V}(h:La H od ks xs):La H' od ks xs:=h.imp id λ⟨dx,a,b,c⟩=>⟨dx,a,s _ _ b,c⟩
mutual
inductive Dv (Z:DC) (H:Hp):V->D->Prop
 |aZ:Dv Z H .aZ .aZ
 |bl (b:Bool):Dv Z H (.bl b) (.bl b)
 |int (i:Int):Dv Z H (.int i) (.int i)
 |str (x:Str) (h:PyData.strOk x=true):Dv Z H (.str x) (.str x)
 |lst {a:Addr} {xs:List V} {ds:List D}:H a=some (.lst xs)->DvAll Z H xs ds->Dv Z H (.ref a) (.lst ds)
 |tup {a:Addr} {xs:List V} {ds:List D}:H a=some (.tup xs)->DvAll Z H xs ds->Dv Z H (.ref a) (.tup ds)
 |obj (a:Addr):Dv Z H (.ref a) (.obj a)
 |rng {a:Addr} {lo hi:Int}:H a=some (.rng lo hi)->Dv Z H (.ref a) (.rng lo hi)
 |lN {a:Addr} {ns:List Int}:bX Z.K H a (ns.map V.int)->ns.length<=63->Dv Z H (.ref a) (.lN ns)
 |fk {p dx R:Addr} {w:List (List Nat)}:H p=some (.ins Z.C dx [("rows", .ref R)])->Dv Z H (.ref R) (ay w)->Wb.Good w->1<=w.length->w.length<=14->Dv Z H (.ref p) (.fk w)
 |set {a:Addr} {b:Bool} {ns:List Int}:H a=some (.ext (NA b a ns))->Dv Z H (.ref a) (.set b ns)
 |x {a:Addr} {φ:Heap->Prop} {k:XD}:H a=some (.ext φ)->FE H a φ k->Dv Z H (.ref a) (.x k)
 |err {a C:Addr} {od:Option Addr} {ks:List Str} {xs:List V} {ds:List D}:H a=some (Sf C a od)->La H od ks xs->DvAll Z H xs ds->Dv Z H (.ref a) (.err C ks ds)
inductive DvAll (Z:DC) (H:Hp):List V->List D->Prop
 |nil:DvAll Z H [] []
 |cons {v:V} {vs:List V} {d:D} {ds:List D}:Dv Z H v d->DvAll Z H vs ds->DvAll Z H (v::vs) (d::ds)
end
theorem bX.mono{K:PySem.W.Frag}{H H':Hp}{a:Addr}{xs:List V}(s:aM H H')(h:bX K H a xs):bX K H' a xs:=by
 rcases h with (h| ⟨o,h⟩) |h
 ·exact .inl (.inl (s _ _ h))
 ·exact .inl (.inr ⟨o,s _ _ h⟩)
 ·exact .inr h
section
variable {Z:DC} {H H' G G':Hp}
theorem Dv.ofInt{v:V}{i:Int}(h:Dv Z H v (.int i)):v= .int i:=by cases h;rfl
theorem Dv.yQ{v:V}{b:Bool}(h:Dv Z H v (.bl b)):v= .bl b:=by cases h;rfl
theorem Dv.iq{v:V}{ds:List D}(h:Dv Z H v (.lst ds)):∃a xs,v= .ref a/\H a=some (.lst xs)/\DvAll Z H xs ds:=by cases h with|lst h e=>exact⟨_,_,rfl,h,e⟩
theorem Dv.lG{v:V}{ds:List D}(h:Dv Z H v (.tup ds)):∃a xs,v= .ref a/\H a=some (.tup xs)/\DvAll Z H xs ds:=by cases h with|tup h e=>exact⟨_,_,rfl,h,e⟩
theorem Dv.JG{v:V}{ns:List Int}(h:Dv Z H v (.lN ns)):∃a,v= .ref a/\bX Z.K H a (ns.map V.int)/\ns.length<=63:=by cases h with|lN h z=>exact⟨_,rfl,h,z⟩
theorem DvAll.DX{vs:List V}(h:DvAll Z H vs []):vs= []:=by cases h;rfl
theorem DvAll.uT{vs:List V}{d:D}{ds:List D}(h:DvAll Z H vs (d::ds)):∃v us,vs=v::us/\Dv Z H v d/\DvAll Z H us ds:=by cases h with|cons a b=>exact⟨_,_,rfl,a,b⟩
theorem DvAll.ofOne{vs:List V}{d:D}(h:DvAll Z H vs [d]):∃v,vs= [v]/\Dv Z H v d:=by
 obtain⟨v,us,rfl,a,b⟩:=h.uT;rw[b.DX];exact⟨v,rfl,a⟩
theorem DvAll.Af{vs:List V}{d e:D}(h:DvAll Z H vs [d,e]):∃v u,vs= [v,u]/\Dv Z H v d/\Dv Z H u e:=by
 obtain⟨v,us,rfl,a,b⟩:=h.uT;obtain⟨u,rfl,c⟩:=b.ofOne;exact⟨v,u,rfl,a,c⟩
theorem Dv.mono(s:aM H H'){v:V}{d:D}(h:Dv Z H v d):Dv Z H' v d:=
 Dv.rec (motive_1:=λv d _=>Dv Z H' v d) (motive_2:=λvs ds _=>DvAll Z H' vs ds) .aZ .bl .int .str (λh _ a=> .lst (s _ _ h) a) (λh _ a=> .tup (s _ _ h) a) .obj (λh=> .rng (s _ _ h)) (λh z=> .lN (h.mono s) z) (λh _ g a b r=> .fk (s _ _ h) r g a b) (λh=> .set (s _ _ h)) (λh k=> .x (s _ _ h) (k.mono s)) (λh k _ a=> .err (s _ _ h) (k.mono s) a) .nil (λ_ _ a b=> .cons a b) h
theorem DvAll.ind{p:List V->List D->Prop}(n:p [] [])(c:∀{v:V}{vs:List V}{d:D}{ds:List D},Dv Z H v d->DvAll Z H vs ds->p vs ds->p (v::vs) (d::ds)){vs:List V}{ds:List D}(h:DvAll Z H vs ds):p vs ds:=
 DvAll.rec (motive_1:=λ_ _ _=>True) (motive_2:=λvs ds _=>p vs ds) trivial (λ_=>trivial) (λ_=>trivial) (λ_ _=>trivial) (λ_ _ _=>trivial) (λ_ _ _=>trivial) (λ_=>trivial) (λ_=>trivial) (λ_ _=>trivial) (λ_ _ _ _ _ _=>trivial) (λ_=>trivial) (λ_ _=>trivial) (λ_ _ _ _=>trivial) n (λa b _ q=>c a b q) h
theorem DvAll.mono(s:aM H H'){vs:List V}{ds:List D}(h:DvAll Z H vs ds):DvAll Z H' vs ds:=h.ind .nil λa _ b=> .cons (a.mono s) b
theorem DvAll.length{vs:List V}{ds:List D}(h:DvAll Z H vs ds):vs.length=ds.length:=h.ind (p:=λvs ds=>vs.length=ds.length) rfl λ_ _ e=>congrArg (·+1) e
theorem DvAll.get{vs:List V}{ds:List D}{i:Nat}{d:D}(h:DvAll Z H vs ds)(e:ds[i]? =some d):∃v,vs[i]? =some v/\Dv Z H v d:=by
 revert i
 refine h.ind (p:=λvs ds=>∀{i:Nat},ds[i]? =some d->∃v,vs[i]? =some v/\Dv Z H v d) (λe=>by cases e) λa _ ih i e=>?_
 cases i with
 |zero=>cases e;exact⟨_,rfl,a⟩
 |succ i=>exact ih e
theorem DvAll.Be{vs:List V}{ds:List D}{i:Nat}{v:V}(h:DvAll Z H vs ds)(e:vs[i]? =some v):∃d,ds[i]? =some d/\Dv Z H v d:=by
 revert i
 refine h.ind (p:=λvs ds=>∀{i:Nat},vs[i]? =some v->∃d,ds[i]? =some d/\Dv Z H v d) (λe=>by cases e) λa _ ih i e=>?_
 cases i with
 |zero=>cases e;exact⟨_,rfl,a⟩
 |succ i=>exact ih e
theorem DvAll.append{vs us:List V}{ds es:List D}(h:DvAll Z H vs ds)(k:DvAll Z H us es):DvAll Z H (vs++us) (ds++es):=h.ind (p:=λvs ds=>DvAll Z H (vs++us) (ds++es)) k λa _ b=> .cons a b
theorem DvAll.take:∀{vs:List V}{ds:List D}(n:Nat),DvAll Z H vs ds->DvAll Z H (vs.take n) (ds.take n)
 |_,_,0,_=>DvAll.nil
 |_,_,n+1, .nil=>DvAll.nil
 |_,_,n+1, .cons a as=>DvAll.cons a (as.take n)
theorem DvAll.drop:∀{vs:List V}{ds:List D}(n:Nat),DvAll Z H vs ds->DvAll Z H (vs.drop n) (ds.drop n)
 |_,_,0,h=>h
 |_,_,n+1, .nil=>by simpa using DvAll.nil
 |_,_,n+1, .cons a as=>by simpa using as.drop n
theorem DvAll.set{v:V}{d:D}(h:Dv Z H v d):∀{vs:List V}{ds:List D}(n:Nat),DvAll Z H vs ds->DvAll Z H (vs.set n v) (ds.set n d)
 |_,_,_, .nil=> .nil
 |_,_,0, .cons a as=> .cons h as
 |_,_,n+1, .cons a as=> .cons a (DvAll.set h n as)
theorem DvAll.rev:∀{vs:List V}{ds:List D},DvAll Z H vs ds->DvAll Z H vs.reverse ds.reverse
 |_,_, .nil=> .nil
 |_,_, .cons a as=>by
  rw[List.reverse_cons,List.reverse_cons];exact as.rev.append (.cons a .nil)
theorem DvAll.ints:∀(ns:List Int),DvAll Z H (ns.map V.int) (ns.map D.int)
 | []=> .nil
 |n::ns=> .cons (.int n) (DvAll.ints ns)
theorem DvAll.snoc{vs:List V}{ds:List D}{v:V}{d:D}(a:DvAll Z H vs ds)(b:Dv Z H v d):DvAll Z H (vs++ [v]) (ds++ [d]):=a.append (.cons b .nil)
structure Ext (G H G' H':Hp):Prop where
 gg:aM G G'
 sub:aM G' H'
 hh:aM H H'
 off:∀b,H b≠none->G b=none->G' b=none
theorem Ext.refl(s:aM G H):Ext G H G H:=⟨.refl _,s, .refl _,λ_ _ h=>h⟩
theorem Ext.trans{G1 H1 G2 H2:Hp}(a:Ext G H G1 H1)(b:Ext G1 H1 G2 H2):Ext G H G2 H2:=
 ⟨a.gg.trans b.gg,b.sub,a.hh.trans b.hh,λx h g=>b.off x (λz=>by
  cases e:H x with
  |none=>exact h e
  |some o=>rw[a.hh x o e] at z;cases z) (a.off x h g)⟩
theorem Ext.new{p:Addr}{o:HO}(s:aM G H)(h:H p=none):Ext G H (upd G p o) (upd H p o):=by
 have hg:G p=none:=s.free h;refine⟨aV hg o,λb u e=>?_,aV h o,λb hb hg=>?_⟩
 ·by_cases z:b=p
  ·subst z;rw[au] at e ⊢;exact e
  ·rw[aw z] at e ⊢;exact s b u e
 ·have:b≠p:=λz=>hb (by rw[z];exact h)
  rw[aw this];exact hg
end
abbrev DN:=List (Option D)
structure dN (Z:DC) (G:Hp) (σ:St) (ρ:DN):Prop where
 len:ρ.length=σ.length
 at_:∀(i:Nat)(d:D),ρ[i]? =some (some d)->∃v,σ[i]? =some (some v)/\Dv Z G v d
section
variable {Z:DC} {G G' H H':Hp} {σ:St} {ρ:DN}
theorem dN.mono(e:dN Z G σ ρ)(s:aM G G'):dN Z G' σ ρ:=⟨e.len,λi d h=>let ⟨v,a,b⟩:=e.at_ i d h;⟨v,a,b.mono s⟩⟩
theorem dN.set{i:Nat}{v:V}{d:D}(e:dN Z G σ ρ)(h:Dv Z G v d):dN Z G (σ.set i (some v)) (ρ.set i (some d)):=by
 refine⟨by rw[cM,cM];exact e.len,λj c hj=>?_⟩
 by_cases z:i=j
 ·subst z
  by_cases hi:i<ρ.length
  ·rw[gF hi] at hj
   cases Option.some.inj hj;exact⟨v,by rw[gF (e.len▸hi)],h⟩
  ·rw[xb (gH hi)] at hj
   rw[eQ (gH hi)] at hj;cases hj
 ·rw[gG z] at hj ⊢
  exact e.at_ j c hj
end
abbrev aY:=DN->(D->Prop)->Prop
abbrev dJ:=DN->(Bool->Prop)->Prop
abbrev gq:=DN->(List D->Prop)->Prop
abbrev fW:=D->D->(D->Prop)->Prop
abbrev fi:=D->DN->(DN->Prop)->Prop
abbrev iM:=DN->(List D->Prop)->Prop
def eG(Z:DC)(t:aY):TE:=λσ H Q=>∃(G:Hp)(ρ:DN)(P:D->Prop),aM G H/\dN Z G σ ρ/\t ρ P/\∀d,P d->∀v G' H',Ext G H G' H'->Dv Z G' v d->Q v H'
def liftT(Z:DC)(t:dJ):TT:=λσ H Q=>∃(G:Hp)(ρ:DN)(P:Bool->Prop),aM G H/\dN Z G σ ρ/\t ρ P/\∀b,P b->∀G' H',Ext G H G' H'->Q b H'
def DB(Z:DC)(t:gq):TA:=λσ H Q=>∃(G:Hp)(ρ:DN)(P:List D->Prop),aM G H/\dN Z G σ ρ/\t ρ P/\∀ds,P ds->∀vs G' H',Ext G H G' H'->DvAll Z G' vs ds->Q vs H'
def bR(Z:DC)(r:fW):R2:=λx y H Q=>∃(G:Hp)(a b:D)(P:D->Prop),aM G H/\Dv Z G x a/\Dv Z G y b/\r a b P/\∀d,P d->∀v G' H',Ext G H G' H'->Dv Z G' v d->Q v H'
def jm(Z:DC)(r:List D->(D->Prop)->Prop):List V->Hp->VK->Prop:=λvs H Q=>∃(G:Hp)(ds:List D)(P:D->Prop),aM G H/\DvAll Z G vs ds/\r ds P/\∀d,P d->∀v G' H',Ext G H G' H'->Dv Z G' v d->Q v H'
abbrev bP:=List D->(D->Prop)->Prop
def aF(Z:DC)(sd:bP):Sp:=λvs H Q _=>jm Z sd vs H Q
def DE(Z:DC)(X:Cx)(e:Expr)(t:aY):Prop:=PE X e (eG Z t)
def DT(Z:DC)(X:Cx)(e:Expr)(t:dJ):Prop:=PT X e (liftT Z t)
def DA(Z:DC)(X:Cx)(es:List Expr)(t:gq):Prop:=PA X es (DB Z t)
theorem PE.imp{X:Cx}{e:Expr}{t t':TE}(h:PE X e t)(f:∀σ H Q,t' σ H Q->t σ H Q):PE X e t':=λpins s σ H Q I q=>h pins s σ H Q I (f _ _ _ q)
theorem PT.imp{X:Cx}{e:Expr}{t t':TT}(h:PT X e t)(f:∀σ H Q,t' σ H Q->t σ H Q):PT X e t':=λpins s σ H Q I q=>h pins s σ H Q I (f _ _ _ q)
theorem PW.imp{X:Cx}{e:Expr}{t t':TT}(h:PW X e t)(f:∀σ H Q,t' σ H Q->t σ H Q):PW X e t':=λwh pins s σ H Q I q=>h wh pins s σ H Q I (f _ _ _ q)
theorem PA.imp{X:Cx}{es:List Expr}{t t':TA}(h:PA X es t)(f:∀σ H Q,t' σ H Q->t σ H Q):PA X es t':=λpos pins s σ H Q I q=>h pos pins s σ H Q I (f _ _ _ q)
theorem OpR.imp{X:Cx}{f:Value->Value->Sem Value}{r r':R2}(h:OpR X f r)(g:∀x y H Q,r' x y H Q->r x y H Q):OpR X f r':=λpins s σ H x y v u Q I a b q=>h pins s σ H x y v u Q I a b (g _ _ _ _ q)
theorem cU.imp{X:Cx}{f:Value}{r r':List V->Hp->VK->Prop}(h:cU X f r)(g:∀xs H Q,r' xs H Q->r xs H Q):cU X f r':=λpins s σ H xs us Q I a q=>h pins s σ H xs us Q I a (g _ _ _ q)
def AZ(i:Nat):aY:=λρ P=>∃d,ρ[i]? =some (some d)/\P d
def dC(d:D):aY:=λ_ P=>P d
section
variable {Z:DC} {X:Cx}
theorem aa(i:Nat){x:Str}{pos:Pos}(hN:X.N[i]? =some x:=by rfl)(hv:j5 X.env.scope x:=by first|exact Or.inl rfl|exact Or.inr (Or.inl rfl) |exact Or.inr (Or.inr rfl))(hd:(x==("__debug__":Str))=false:=by decide)
  (dh:(x==("__classdict__":Str))=false:=by decide):DE Z X (.Name x pos) (AZ i):=by
 refine(Al hN hv hd dh).imp λσ H Q g8=>?_;rfl';obtain⟨G,ρ,P,s,e,⟨d,hd,p⟩,q⟩:=g8;ac_rfl;exact let ⟨v,hv,dv⟩:=e.at_ i d hd;⟨v,hv,q d p v G H (.refl s) dv⟩
theorem ao{i j pos}:DE Z X (.Constant (.int i) j pos) (dC (.int i)):=by
 refine MH.imp λσ H Q g8=>?_;rfl';obtain⟨G,ρ,P,s,e,p,q⟩:=g8;ac_rfl;exact q _ p _ G H (.refl s) (.int i)
theorem f6{b j pos}:DE Z X (.Constant (.bool b) j pos) (dC (.bl b)):=by
 refine Ru.imp λσ H Q g8=>?_;rfl';obtain⟨G,ρ,P,s,e,p,q⟩:=g8;ac_rfl;exact q _ p _ G H (.refl s) (.bl b)
theorem cg{j pos}:DE Z X (.Constant .none j pos) (dC .aZ):=by
 refine MJ.imp λσ H Q g8=>?_;rfl';obtain⟨G,ρ,P,s,e,p,q⟩:=g8;ac_rfl;exact q _ p _ G H (.refl s) .aZ
theorem dj{x j pos}(h:PyData.strOk x=true:=by decide+kernel):DE Z X (.Constant (.str x) j pos) (dC (.str x)):=by
 refine MM.imp λσ H Q g8=>?_;rfl';obtain⟨G,ρ,P,s,e,p,q⟩:=g8;ac_rfl;exact q _ p _ G H (.refl s) (.str x h)
theorem yf{x:Str}{i:Int}{pos:Pos}(hg:Gl X x)(hm:∃tk,X.mg x=some (.int i tk))(hd:(x==("__debug__":Str))=false:=by decide):DE Z X (.Name x pos) (dC (.int i)):=by
 obtain⟨tk,hm⟩:=hm;exact(JW hg hm (v:= .int i) ⟨tk,rfl⟩ hd).imp λσ H Q ⟨G,ρ,P,s,e,p,q⟩=>q _ p _ G H (.refl s) (.int i)
def AY(r:fW)(ta tb:aY):aY:=λρ P=>ta ρ λa=>tb ρ λb=>r a b P
variable {a b c:Expr} {ta tb tc:aY} {pos:Pos}
theorem z8{r:fW}:∀σ H Q,eG Z (AY r ta tb) σ H Q->KU (bR Z r) (eG Z ta) (eG Z tb) σ H Q:=by
 intro σ H Q aL;rfl';obtain⟨G,ρ,P,s,e,h,q⟩:=aL;ac_rfl;refine⟨G,ρ,_,s,e,h,λa ha v G1 H1 x1 dv=>?_⟩;refine⟨G1,ρ,_,x1.sub,e.mono x1.gg,ha,λb hb u G2 H2 x2 du=>?_⟩;exact⟨G2,a,b,P,x2.sub,dv.mono x2.gg,du,hb,λd hd v' G' H' x3 lD=>q d hd v' G' H' ((x1.trans x2).trans x3) lD⟩
theorem az{op:Operator}{r:fW}(ho:OpR X (binaryOp op) (bR Z r))(ha:DE Z X a ta)(hb:DE Z X b tb):DE Z X (.BinOp a op b pos) (AY r ta tb):=(wy ho ha hb).imp z8
theorem oi{op:CmpOp}{r:fW}(ho:OpR X (compareOp op) (bR Z r))(ha:DE Z X a ta)(hb:DE Z X b tb)(hm:behindInMarks op b=false):DE Z X (.Compare a [op] [b] pos) (AY r ta tb):=(JV ho ha hb hm).imp z8
def CN(t:aY):dJ:=λρ P=>t ρ λd=>∃k,d= .bl k/\P k
theorem yK{t:aY}:∀σ H Q,liftT Z (CN t) σ H Q->El (eG Z t) σ H Q:=by
 intro σ H Q aL;rfl';obtain⟨G,ρ,P,s,e,h,q⟩:=aL;ac_rfl;refine⟨G,ρ,_,s,e,h,?_⟩;rintro _ ⟨k,rfl,p⟩ v G1 H1 x1 dv;cases dv.yQ;exact⟨k,rfl,q k p G1 H1 x1⟩
theorem aK{op:CmpOp}{r:fW}(ho:OpR X (compareOp op) (bR Z r))(ha:DE Z X a ta)(hb:DE Z X b tb)(hm:behindInMarks op b=false):DT Z X (.Compare a [op] [b] pos) (CN (AY r ta tb)):=
 (Kb ho ha hb hm).imp λσ H Q h=>by
  obtain h:=yK σ H Q h;exact z8 σ H _ h
def zF(r r':fW)(ta tb tc:aY):aY:=λρ P=>ta ρ λx=>tb ρ λy=>r x y λz=>∃k,z= .bl k/\(if k=true then tc ρ λw'=>r' y w' P else P (.bl false))
theorem vQ{r r':fW}:∀σ H Q,eG Z (zF r r' ta tb tc) σ H Q->Aw (bR Z r) (bR Z r') (eG Z ta) (eG Z tb) (eG Z tc) σ H Q:=by
 intro σ H Q aL;rfl';obtain⟨G,ρ,P,s,e,h,q⟩:=aL;ac_rfl;refine⟨G,ρ,_,s,e,h,λa ha v G1 H1 x1 dv=>?_⟩;refine⟨G1,ρ,_,x1.sub,e.mono x1.gg,ha,λb hb u G2 H2 x2 du=>?_⟩;refine⟨G2,a,b,_,x2.sub,dv.mono x2.gg,du,hb,?_⟩;rintro _ ⟨k,rfl,hk⟩ v' G3 H3 x3 lD;cases lD.yQ;refine⟨k,rfl,?_⟩;have x:=(x1.trans x2).trans x3;cases k with
 |false=>exact bH (q _ hk _ G3 H3 x (.bl false))
 |true=>
  refine b9 ⟨G3,ρ,_,x3.sub,e.mono x.gg,hk,λc hc w' G4 H4 x4 dw=>?_⟩;exact⟨G4,b,c,P,x4.sub,(du.mono x3.gg).mono x4.gg,dw,hc,λd hd v'' G' H' x5 d5=>q d hd v'' G' H' ((x.trans x4).trans x5) d5⟩
theorem FU{op pZ:CmpOp}{r r':fW}(ho:OpR X (compareOp op) (bR Z r))(ia:OpR X (compareOp pZ) (bR Z r'))(ha:DE Z X a ta)(hb:DE Z X b tb)(hc:DE Z X c tc)
  (hm:lastMarks [op,pZ] [b,c]=false:=by with_unfolding_all rfl):DE Z X (.Compare a [op,pZ] [b,c] pos) (zF r r' ta tb tc):=(GP ho ia ha hb hc hm).imp vQ
theorem F0{op pZ:CmpOp}{r r':fW}(ho:OpR X (compareOp op) (bR Z r))(ia:OpR X (compareOp pZ) (bR Z r'))(ha:DE Z X a ta)(hb:DE Z X b tb)(hc:DE Z X c tc)
  (hm:lastMarks [op,pZ] [b,c]=false:=by with_unfolding_all rfl):DT Z X (.Compare a [op,pZ] [b,c] pos) (CN (zF r r' ta tb tc)):=
 (GZ ho ia ha hb hc hm).imp λσ H Q h=>by
  obtain h:=yK σ H Q h;exact vQ σ H _ h
def mD:D->Bool
 | .aZ=>false
 | .bl b=>b
 | .int i=>i !=0
 | .str x=>x.length !=0
 | .lst l=>!l.isEmpty
 | .tup l=>!l.isEmpty
 | .lN l=>!l.isEmpty
 | .rng lo hi=>decide (lo<hi)
 | .obj _=>true
 | .fk _=>true
 | .set _ l=>!l.isEmpty
 | .x _=>true
 | .err _ _ _=>true
def Je:D->Bool
 | .bl _=>true
 | .int _=>true
 | .lst _=>true
 | .tup _=>true
 | .aZ=>true
 |_=>false
def Uy(t:aY):dJ:=λρ P=>t ρ λd=>Je d=true/\P (mD d)
theorem jJ{G:Hp}{vs:List V}{ds:List D}(h:DvAll Z G vs ds):vs.isEmpty=ds.isEmpty:=by cases h<;>rfl
theorem eU(ha:DE Z X a ta)(he:∀whole,isTrue a X.env whole=(do let v <-whole;standAt a.pos;holding [v] (truthy v)):=by intro _;rfl):DT Z X a (Uy ta):=by
 refine(G9 ha he).imp ?_;intro σ H Q aL;rfl';obtain⟨G,ρ,P,s,e,h,q⟩:=aL;ac_rfl;refine⟨G,ρ,_,s,e,h,?_⟩;rintro d ⟨hd,p⟩ v G1 H1 x1 dv;refine⟨mD d,?_,q _ p G1 H1 x1⟩;cases dv with
 |aZ=>rfl
 |bl b=>rfl
 |int i=>rfl
 |lst h a=>exact .inl ⟨_,bX.of (x1.sub _ _ h),by rw[jJ a];rfl⟩
 |tup h a=>exact .inr (.inl ⟨_,eB.of (x1.sub _ _ h),by rw[jJ a];rfl⟩)
 |_=>cases hd
def Ui(t u:dJ):dJ:=λρ P=>t ρ λc=>if c=true then u ρ P else P false
def dOr(t u:dJ):dJ:=λρ P=>t ρ λc=>if c=true then P true else u ρ P
def Uq(t:dJ):dJ:=λρ P=>t ρ λc=>P (!c)
variable {tA Av:dJ} {rest:List Expr}
def DW(Z:DC)(X:Cx)(e:Expr)(t:dJ):Prop:=PW X e (liftT Z t)
theorem DW.dt{e:Expr}{t:dJ}(h:DW Z X e t):DT Z X e t:=PW.pt h
theorem qF(ha:DT Z X a tA):DW Z X (.BoolOp .And [a] pos) tA:=Kf ha
theorem oz(ha:DT Z X a tA):DW Z X (.BoolOp .Or [a] pos) tA:=MV ha
theorem uO(ha:DT Z X a tA)(hb:DW Z X (.BoolOp .And (b::rest) pos) Av):DW Z X (.BoolOp .And (a::b::rest) pos) (Ui tA Av):=by
 refine(MU ha hb).imp ?_;intro σ H Q aL;rfl';obtain⟨G,ρ,P,s,e,h,q⟩:=aL;ac_rfl;refine⟨G,ρ,_,s,e,h,λc hc G1 H1 x1=>?_⟩;cases c with
 |true=>exact b9 ⟨G1,ρ,P,x1.sub,e.mono x1.gg,hc,λb hb G2 H2 x2=>q b hb G2 H2 (x1.trans x2)⟩
 |false=>exact bH (q _ hc G1 H1 x1)
theorem pK(ha:DT Z X a tA)(hb:DW Z X (.BoolOp .Or (b::rest) pos) Av):DW Z X (.BoolOp .Or (a::b::rest) pos) (dOr tA Av):=by
 refine(Rx ha hb).imp ?_;intro σ H Q aL;rfl';obtain⟨G,ρ,P,s,e,h,q⟩:=aL;ac_rfl;refine⟨G,ρ,_,s,e,h,λc hc G1 H1 x1=>?_⟩;cases c with
 |false=>exact bH ⟨G1,ρ,P,x1.sub,e.mono x1.gg,hc,λb hb G2 H2 x2=>q b hb G2 H2 (x1.trans x2)⟩
 |true=>exact b9 (q _ hc G1 H1 x1)
theorem fS(ha:DT Z X a tA):DT Z X (.UnaryOp .Not a pos) (Uq tA):=by
 refine(MT ha).imp ?_;rintro σ H Q ⟨G,ρ,P,s,e,h,q⟩;exact⟨G,ρ,_,s,e,h,λc hc G1 H1 x1=>q _ hc G1 H1 x1⟩
def PU(ta tb:aY):aY:=λρ P=>ta ρ λx=>∃c,x= .bl c/\if c=true then tb ρ P else P (.bl false)
def P5(ta:aY):aY:=λρ P=>ta ρ λx=>∃c,x= .bl c/\P (.bl (!c))
theorem zH{op}(h:DE Z X a ta):DE Z X (.BoolOp op [a] pos) ta:=ML h
theorem uK(ha:DE Z X a ta)(hb:DE Z X (.BoolOp .And (b::rest) pos) tb):DE Z X (.BoolOp .And (a::b::rest) pos) (PU ta tb):=by
 refine(MD ha hb).imp ?_;intro σ H Q aL;rfl';obtain⟨G,ρ,P,s,e,h,q⟩:=aL;ac_rfl;refine⟨G,ρ,_,s,e,h,?_⟩;rintro _ ⟨c,rfl,hc⟩ v G1 H1 x1 dv;cases dv.yQ;refine⟨c,rfl,?_⟩;cases c with
 |true=>exact b9 ⟨G1,ρ,P,x1.sub,e.mono x1.gg,hc,λb hb v G2 H2 x2 d2=>q b hb v G2 H2 (x1.trans x2) d2⟩
 |false=>exact bH (q _ hc _ G1 H1 x1 (.bl false))
theorem Lx(ha:DE Z X a ta):DE Z X (.UnaryOp .Not a pos) (P5 ta):=by
 refine(MK ha).imp ?_;intro σ H Q aL;rfl';obtain⟨G,ρ,P,s,e,h,q⟩:=aL;ac_rfl;refine⟨G,ρ,_,s,e,h,?_⟩;rintro _ ⟨c,rfl,hc⟩ v G1 H1 x1 dv;cases dv.yQ;exact⟨c,rfl,q _ hc _ G1 H1 x1 (.bl _)⟩
def dIf(t:dJ)(ta tb:aY):aY:=λρ P=>t ρ λc=>if c=true then ta ρ P else tb ρ P
theorem Qc{c:Expr}(hc:DT Z X c tA)(ha:DE Z X a ta)(hb:DE Z X b tb):DE Z X (.IfExp c a b pos) (dIf tA ta tb):=by
 refine(GQ hc ha hb).imp ?_;intro σ H Q aL;rfl';obtain⟨G,ρ,P,s,e,h,q⟩:=aL;ac_rfl;refine⟨G,ρ,_,s,e,h,λc hc G1 H1 x1=>?_⟩;cases c with
 |true=>exact b9 ⟨G1,ρ,P,x1.sub,e.mono x1.gg,hc,λb hb v G2 H2 x2 d2=>q b hb v G2 H2 (x1.trans x2) d2⟩
 |false=>exact bH ⟨G1,ρ,P,x1.sub,e.mono x1.gg,hc,λb hb v G2 H2 x2 d2=>q b hb v G2 H2 (x1.trans x2) d2⟩
def cW:gq:=λ_ P=>P []
def i9(ta:aY)(t:gq):gq:=λρ P=>ta ρ λx=>t ρ λxs=>P (x::xs)
variable {es:List Expr} {t:gq} {e:Expr}
theorem ae:DA Z X [] cW:=by
 refine dO.imp λσ H Q g8=>?_;rfl';obtain⟨G,ρ,P,s,e,p,q⟩:=g8;ac_rfl;exact q _ p _ G H (.refl s) .nil
theorem ab(ha:DE Z X e ta)(hr:DA Z X es t)(hs:starEach (e::es) X.env=(false,eval e X.env)::starEach es X.env:=by rfl):DA Z X (e::es) (i9 ta t):=by
 refine(bV ha hr hs).imp ?_;intro σ H Q aL;rfl';obtain⟨G,ρ,P,s,e,h,q⟩:=aL;ac_rfl;refine⟨G,ρ,_,s,e,h,λa ha v G1 H1 x1 dv=>?_⟩;exact⟨G1,ρ,_,x1.sub,e.mono x1.gg,ha,λds hd vs G2 H2 x2 bu=>q _ hd _ G2 H2 (x1.trans x2) (.cons (dv.mono x2.gg) bu)⟩
def Uz(t:gq):aY:=λρ P=>t ρ λxs=>xs.length<=sizeLine/\P (.tup xs)
def Om(t:gq):aY:=λρ P=>t ρ λxs=>xs.length<=sizeLine/\P (.lst xs)
theorem cG{x1}(h:DA Z X es t):DE Z X (.Tuple es x1 pos) (Uz t):=by
 refine(MN h).imp ?_;intro σ H Q aL;rfl';obtain⟨G,ρ,P,s,e,h,q⟩:=aL;ac_rfl;refine⟨G,ρ,_,s,e,h,?_⟩;rintro ds ⟨hl,hp⟩ vs G1 H1 x1 bu;exact⟨by rw[bu.length];exact hl,λp gJ=>q _ hp _ _ _ (x1.trans (.new x1.sub gJ)) (.tup au (bu.mono (aV (x1.sub.free gJ) _)))⟩
theorem di(h:DA Z X es t):DE Z X (.List es pos) (Om t):=by
 refine(lJ h).imp ?_;intro σ H Q aL;rfl';obtain⟨G,ρ,P,s,e,h,q⟩:=aL;ac_rfl;refine⟨G,ρ,_,s,e,h,?_⟩;rintro ds ⟨hl,hp⟩ vs G1 H1 x1 bu;exact⟨by rw[bu.length];exact hl,λp gJ=>q _ hp _ _ _ (x1.trans (.new x1.sub gJ)) (.lst au (bu.mono (aV (x1.sub.free gJ) _)))⟩
def mS(r:List D->(D->Prop)->Prop)(t:gq):aY:=λρ P=>t ρ λds=>r ds P
theorem sX{r:List D->(D->Prop)->Prop}:∀σ H Q,eG Z (mS r t) σ H Q->DB Z t σ H λvs H1=>jm Z r vs H1 Q:=by
 intro σ H Q aL;rfl';obtain⟨G,ρ,P,s,e,h,q⟩:=aL;ac_rfl;exact⟨G,ρ,_,s,e,h,λds hd vs G1 H1 x1 bu=>⟨G1,ds,P,x1.sub,bu,hd,λd hp v G2 H2 x2 dv=>q d hp v G2 H2 (x1.trans x2) dv⟩⟩
theorem H0{sd:bP}{k:Nat}{f:Addr}{fd:FuncData}{ps:List Str}{x:Str}{p:Pos}(F:FnOk X.prog X.w X.K X.mg X.base bB k f fd ps (aF Z sd))(hr:cn k X.A)(hg:Gl X x)(hm:X.mg x=some (.ref f))(hk:PySem.W.keepIn X.K (.ref f)=true)(hb:Binds X.K fd ps [])
  (ha:DA Z X (e::es) t) (ik:(x==("__debug__":Str))=false:=by decide) (he:starEach (e::es) X.env=(false,eval e X.env)::starEach es X.env:=by rfl) (eF:(backTo pos (starEach es X.env)).any (·.1)=false:=by rfl):
  DE Z X (.Call (.Name x p) (e::es) [] pos) (mS sd t):=
 (rm F hr hg hm hk hb .nil qa ha ik he eF).imp λσ H Q h=>by
  rfl';have h:=sX σ H Q h;obtain⟨G,ρ,P,s,e,h,q⟩:=h;ac_rfl;exact⟨G,ρ,P,s,e,h,λds hd vs G1 H1 x1 bu=>by show aF Z sd (vs++ []) H1 Q E0;rw[pD];exact q ds hd vs G1 H1 x1 bu⟩
theorem aA{id:String}{x:Str}{p:Pos}{r:List D->(D->Prop)->Prop}(hc:cU X (.builtin id) (jm Z r))(hg:Gl X x)(hm:X.mg x=none)(hv:bootBuiltins x=some (.builtin id))(ha:DA Z X (e::es) t)(hn:x≠"__name__":=by decide)(ik:(x==("__debug__":Str))=false:=by decide)
  (he:starEach (e::es) X.env=(false,eval e X.env)::starEach es X.env:=by rfl) (eF:(backTo pos (starEach es X.env)).any (·.1)=false:=by rfl):
  DE Z X (.Call (.Name x p) (e::es) [] pos) (mS r t):=(tu hc hg hm hv ha hn ik he eF).imp sX
theorem jb{T:String}{x:Str}{p:Pos}{r:List D->(D->Prop)->Prop}(hc:cU X (.type T) (jm Z r))(hg:Gl X x)(hm:X.mg x=none)(hv:bootBuiltins x=some (.type T))(ha:DA Z X (e::es) t)(hn:x≠"__name__":=by decide)(ik:(x==("__debug__":Str))=false:=by decide)
  (he:starEach (e::es) X.env=(false,eval e X.env)::starEach es X.env:=by rfl) (eF:(backTo pos (starEach es X.env)).any (·.1)=false:=by rfl):
  DE Z X (.Call (.Name x p) (e::es) [] pos) (mS r t):=(D5 hc hg hm hv ha hn ik he eF).imp sX
end
end L2
namespace L2
open PySem PySem.Spec PyProof.Rows
section
variable {Z:DC} {X:Cx}
def Oe:fW:=λx y P=>match x,y with
 | .int i, .int j=>P (.int (i+j))
 | .lst a, .lst b=>a.length+b.length<=sizeLine/\P (.lst (a++b))
 | .tup a, .tup b=>a≠ []/\a.length+b.length<=sizeLine/\b≠ []/\P (.tup (a++b))
 |_,_=>False
def dI(c:Int->Int->Prop)(g:Int->Int->Int):fW:=λx y P=>match x,y with
 | .int i, .int j=>c i j/\P (.int (g i j))
 |_,_=>False
def Lo(g:Int->Int->Int):fW:=λx y P=>match x,y with
 | .int i, .int j=>P (.int (g i j))
 |_,_=>False
def Uw:fW:=Lo λi j=>i-j
def Oq:fW:=λx y P=>match x,y with
 | .int i, .int j=>EC i j/\P (.int (i*j))
 | .lst a, .int k=> -(2^63)<=k/\k<2^63/\a.length*k.toNat<=sizeLine/\P (.lst (List.replicate k.toNat a).flatten)
 |_,_=>False
def Of:fW:=dI Nx λi j=>i / j
def Oo:fW:=dI (λ_ j=>0<j) λi j=>i%j
def Ut:fW:=dI Ny λi j=>i^j.toNat
def PX:fW:=Lo Builtin.bitAnd
theorem Aa{f:Value->Value->Sem Value}{c:Int->Int->Prop}{g:Int->Int->Int}(h:OpR X f (rI c λi j=> .int (g i j))):OpR X f (bR Z (dI c g)):=by
 refine h.imp ?_;intro x y H Q g9;rfl';obtain⟨G,a,b,P,s,da,db,hr,q⟩:=g9;ac_rfl;unfold dI at hr
 split at hr
 ·exact⟨_,_,da.ofInt,db.ofInt,hr.1,q _ hr.2 _ G H (.refl s) (.int _)⟩
 ·exact hr.elim
theorem E2{f:Value->Value->Sem Value}{g:Int->Int->Int}(h:OpR X f (xU λi j=> .int (g i j))):OpR X f (bR Z (Lo g)):=by
 refine h.imp ?_;intro x y H Q g9;rfl';obtain⟨G,a,b,P,s,da,db,hr,q⟩:=g9;ac_rfl;unfold Lo at hr
 split at hr
 ·exact⟨_,_,da.ofInt,db.ofInt,q _ hr _ G H (.refl s) (.int _)⟩
 ·exact hr.elim
theorem qU:OpR X (binaryOp .Sub) (bR Z Uw):=E2 MC
theorem eY:OpR X (binaryOp .FloorDiv) (bR Z Of):=Aa JN
theorem cv:OpR X (binaryOp .Mod) (bR Z Oo):=Aa Mx
theorem Fe:OpR X (binaryOp .Pow) (bR Z Ut):=Aa MA
theorem JF:OpR X (binaryOp .BitAnd) (bR Z PX):=E2 Mt
theorem ba(e:X.K=Z.K:=by rfl):OpR X (binaryOp .Add) (bR Z Oe):=by
 refine(Ms.or (qZ.or (JM))).imp ?_;rintro x y H Q ⟨G,a,b,P,s,da,db,hr,q⟩;unfold Oe at hr
 split at hr
 ·exact .inl ⟨_,_,da.ofInt,db.ofInt,q _ hr _ G H (.refl s) (.int _)⟩
 ·obtain⟨a1,Ho,rfl,h1,e1⟩:=da.iq
  obtain⟨a2,xs2,rfl,h2,e2⟩:=db.iq;obtain⟨hz,hp⟩:=hr;refine .inr (.inl ⟨_,_,_,_,rfl,rfl,s _ _ h1,s _ _ h2,by rw[e1.length,e2.length];exact hz,λp hn=>?_⟩)
  exact q _ hp _ _ _ (.new s hn) (.lst au ((e1.append e2).mono (aV (s.free hn) _)))
 ·obtain⟨a1,Ho,rfl,h1,e1⟩:=da.lG
  obtain⟨a2,xs2,rfl,h2,e2⟩:=db.lG;obtain⟨h0,hz,Vu,hp⟩:=hr;refine .inr (.inr ⟨_,_,_,_,rfl,rfl,eB.of (s _ _ h1),eB.of (s _ _ h2),?_,by rw[e1.length,e2.length];exact hz,?_⟩)
  ·rintro rfl;cases e1;exact h0 rfl
  ·refine⟨?_,λ_ p hn=>q _ hp _ _ _ (.new s hn) (.tup au ((e1.append e2).mono (aV (s.free hn) _)))⟩
   rintro rfl;cases e2;exact(Vu rfl).elim
 ·exact hr.elim
theorem DvAll.rep{G:Hp}{vs:List V}{ds:List D}(h:DvAll Z G vs ds):∀k:Nat,DvAll Z G (List.replicate k vs).flatten (List.replicate k ds).flatten
 |0=> .nil
 |k+1=>by rw[xh,xh,pB,pB];exact h.append (DvAll.rep h k)
theorem uS:OpR X (binaryOp .Mult) (bR Z Oq):=by
 refine(My.or MB).imp ?_;intro x y H Q g9;rfl';obtain⟨G,a,b,P,s,da,db,hr,q⟩:=g9;ac_rfl;unfold Oq at hr
 split at hr
 ·exact .inl ⟨_,_,da.ofInt,db.ofInt,hr.1,q _ hr.2 _ G H (.refl s) (.int _)⟩
 ·obtain⟨a1,Ho,rfl,h1,e1⟩:=da.iq
  obtain⟨h0,h9,hz,hp⟩:=hr;refine .inr ⟨_,_,_,rfl,db.ofInt,s _ _ h1,h0,h9,by rw[e1.length];exact hz,λp hn=>?_⟩
  exact q _ hp _ _ _ (.new s hn) (.lst au ((e1.rep _).mono (aV (s.free hn) _)))
 ·exact hr.elim
mutual
def D.py:D->Option PyData
 | .aZ=>some .none
 | .bl b=>some (.bool b)
 | .int i=>some (.int i)
 | .str x=>some (.str x)
 | .lst l=>(iw l).map PyData.list
 | .tup l=>(iw l).map PyData.tuple
 | .lN _=>none
 | .rng _ _=>none
 | .obj _=>none
 | .fk _=>none
 | .set _ _=>none
 | .x _=>none
 | .err _ _ _=>none
def iw:List D->Option (List PyData)
 | []=>some []
 |d::ds=>(D.py d).bind λa=>(iw ds).map λas=>a::as
end
theorem Dv.dp{K:PySem.W.Frag}{G:Hp}{v:V}{d:D}(h:Dv Z G v d):∀{e:PyData},d.py=some e->Dp K G v e:=by
 refine Dv.rec (motive_1:=λv d _=>∀{e:PyData},d.py=some e->Dp K G v e) (motive_2:=λvs ds _=>∀{es:List PyData},iw ds=some es->ie K G vs es) ?_ ?_ ?_ ?_ ?_ ?_ ?_ ?_ ?_ ?_ ?_ ?_ ?_ ?_ ?_ h
 ·intro e h;rw[D.py] at h;cases h;exact .aZ
 ·intro b e h;rw[D.py] at h;cases h;exact .bl b
 ·intro i e h;rw[D.py] at h;cases h;exact .int i
 ·intro x k e h;rw[D.py] at h;cases h;exact .str x k
 ·intro a xs ds q _ ih e h
  rw[D.py] at h;cases h1:iw ds with
  |none=>rw[h1] at h;cases h
  |some l=>rw[h1] at h;cases h;exact .lst (bX.of q) (ih h1)
 ·intro a xs ds q _ ih e h
  rw[D.py] at h;cases h1:iw ds with
  |none=>rw[h1] at h;cases h
  |some l=>rw[h1] at h;cases h;exact .tup (eB.of q) (ih h1)
 ·intro a e h;simp[D.py] at h
 ·intro a lo hi _ e h;simp[D.py] at h
 ·intro a ns _ _ e h;simp[D.py] at h
 ·intro p dx R w _ _ _ _ _ _ e h;simp[D.py] at h
 ·intro a b ns _ e h;simp[D.py] at h
 ·intro a φ k _ _ e h;simp[D.py] at h
 ·intro a C od ks xs ds _ _ _ _ e h;simp[D.py] at h
 ·intro es h;rw[iw] at h;cases h;exact .nil
 ·intro v vs d ds _ _ i1 i2 es h
  rw[iw] at h;cases h1:d.py with
  |none=>rw[h1] at h;cases h
  |some x=>
   rw[h1] at h;cases h2:iw ds with
   |none=>rw[h2] at h;cases h
   |some y=>rw[h2] at h;cases h;exact .cons (i1 h1) (i2 h2)
theorem eB.mono{K:PySem.W.Frag}{H H':Hp}{a:Addr}{xs:List V}(s:aM H H')(h:eB K H a xs):eB K H' a xs:=by
 rcases h with (h| ⟨o,h⟩) |h
 ·exact .inl (.inl (s _ _ h))
 ·exact .inl (.inr ⟨o,s _ _ h⟩)
 ·exact .inr h
theorem Dp.mono{K:PySem.W.Frag}{G H:Hp}(s:aM G H){v:V}{d:PyData}(h:Dp K G v d):Dp K H v d:=
 Dp.rec (motive_1:=λv d _=>Dp K H v d) (motive_2:=λvs ds _=>ie K H vs ds) .aZ .bl .int .str (λh _ a=> .lst (h.mono s) a) (λh _ a=> .tup (h.mono s) a) .nil (λ_ _ a b=> .cons a b) h
def Og(neg:Bool):fW:=λx y P=>∃a b,x.py=some a/\y.py=some b/\a.depth<=64/\P (.bl (if neg then !PyData.eqv a b else PyData.eqv a b))
abbrev HU:fW:=Og false
abbrev CL:fW:=Og true
theorem gf(hu:X.A.units+64<cLine):OpR X (compareOp .Eq) (bR Z HU):=by
 refine(Mu hu).imp ?_;intro x y H Q g9;rfl';obtain⟨G,a,b,P,s,da,db,⟨c,d,h1,h2,h3,hp⟩,q⟩:=g9;ac_rfl;exact⟨c,d,(da.dp h1).mono s,(db.dp h2).mono s,h3,q _ hp _ G H (.refl s) (.bl _)⟩
theorem pV(hu:X.A.units+64<cLine):OpR X (compareOp .NotEq) (bR Z CL):=by
 refine(Mz hu).imp ?_;intro x y H Q g9;rfl';obtain⟨G,a,b,P,s,da,db,⟨c,d,h1,h2,h3,hp⟩,q⟩:=g9;ac_rfl;exact⟨c,d,(da.dp h1).mono s,(db.dp h2).mono s,h3,q _ hp _ G H (.refl s) (.bl _)⟩
theorem AX{i j:Int}{P:D->Prop}(h:P (.bl (decide (i=j)))):HU (.int i) (.int j) P:=⟨.int i, .int j,rfl,rfl,by simp[PyData.depth],by
 have:PyData.eqv (.int i) (.int j)=decide (i=j):=by
  rw[PyData.eqv]
  by_cases z:i=j<;>simp[z]
 simpa [this] using h⟩
theorem qv{i j:Int}{P:D->Prop}(h:P (.bl (!decide (i=j)))):CL (.int i) (.int j) P:=⟨.int i, .int j,rfl,rfl,by simp[PyData.depth],by
 have:PyData.eqv (.int i) (.int j)=decide (i=j):=by
  rw[PyData.eqv]
  by_cases z:i=j<;>simp[z]
 simpa [this] using h⟩
def AW(p:Int->Int->Bool):fW:=λx y P=>match x,y with
 | .int i, .int j=>P (.bl (p i j))
 |_,_=>False
theorem vR{f:Value->Value->Sem Value}{p:Int->Int->Bool}(h:OpR X f (xU λi j=> .bl (p i j))):OpR X f (bR Z (AW p)):=by
 refine h.imp ?_;intro x y H Q g9;rfl';obtain⟨G,a,b,P,s,da,db,hr,q⟩:=g9;ac_rfl;unfold AW at hr
 split at hr
 ·exact⟨_,_,da.ofInt,db.ofInt,q _ hr _ G H (.refl s) (.bl _)⟩
 ·exact hr.elim
end
end L2
namespace L2
open PySem PySem.Spec PyProof.Rows
section
variable {Z:DC} {X:Cx}
abbrev dLt:fW:=AW λi j=>decide (i<j)
abbrev dLe:fW:=AW λi j=>decide (i<=j)
abbrev dGt:fW:=AW λi j=>decide (j<i)
theorem Ae:OpR X (compareOp .Lt) (bR Z dLt):=vR Rp
theorem v7:OpR X (compareOp .LtE) (bR Z dLe):=vR Ro
theorem vZ:OpR X (compareOp .Gt) (bR Z dGt):=vR Rm
def sS:D->Bool
 | .aZ=>true
 |_=>false
def Oj(neg:Bool):fW:=λx y P=>match y with
 | .aZ=>P (.bl (if neg then !sS x else sS x))
 |_=>False
theorem yC{G:Hp}{v:V}{d:D}(h:Dv Z G v d):decide (v= .aZ)=sS d:=by cases h<;>rfl
theorem pU:OpR X (compareOp .Is) (bR Z (Oj false)):=by
 refine Mw.imp ?_;rintro x y H Q ⟨G,a,b,P,s,da,db,hr,q⟩;cases db<;>first|exact hr.elim|skip
 exact⟨rfl,by rw[yC da];exact q _ hr _ G H (.refl s) (.bl _)⟩
theorem td:OpR X (compareOp .IsNot) (bR Z (Oj true)):=by
 refine JO.imp ?_;rintro x y H Q ⟨G,a,b,P,s,da,db,hr,q⟩;cases db<;>first|exact hr.elim|skip
 exact⟨rfl,by rw[yC da];exact q _ hr _ G H (.refl s) (.bl _)⟩
def df:D->Bool
 | .aZ=>true
 | .bl _=>true
 | .int _=>true
 | .str _=>true
 |_=>false
def fN:D->D->Bool
 | .aZ, .aZ=>true
 | .bl a, .bl b=>a==b
 | .bl a, .int b=>(if a then 1 else 0)==b
 | .int a, .bl b=>a==(if b then 1 else 0)
 | .int a, .int b=>a==b
 | .str a, .str b=>a==b
 |_,_=>false
def inD(x:D)(l:List D):Bool:=l.any λy=>fN y x
theorem qG{G:Hp}{v:V}{d:D}(h:Dv Z G v d):gx v=df d:=by cases h<;>rfl
theorem mY{G:Hp}{vs:List V}{ds:List D}(h:DvAll Z G vs ds):vs.all gx=ds.all df:=h.ind (p:=λvs ds=>vs.all gx=ds.all df) rfl λa _ e=>by rw[tH,tH,qG a,e]
theorem zN{G:Hp}{v u:V}{d e:D}(h:Dv Z G v d)(k:Dv Z G u e):vy v u=fN d e:=by cases h<;>first|rfl| (cases k<;>rfl)
theorem Dl{G:Hp}{v:V}{d:D}(h:Dv Z G v d):∀{vs:List V}{ds:List D},DvAll Z G vs ds->L1 v vs=inD d ds
 |_,_, .nil=>rfl
 |_,_, .cons a as=>by
  unfold L1 inD;rw[List.any_cons,List.any_cons,zN a h];exact congrArg _ (Dl h as)
def Lp(neg:Bool):fW:=λx y P=>match y with
 | .lst l=>df x=true/\l.all df=true/\P (.bl (if neg then !inD x l else inD x l))
 | .tup l=>df x=true/\l.all df=true/\P (.bl (if neg then !inD x l else inD x l))
 |_=>False
theorem Kk{neg:Bool}:∀x y H Q,bR Z (Lp neg) x y H Q->RC X.K neg x y H Q:=by
 rintro x y H Q ⟨G,a,b,P,s,da,db,hr,q⟩;cases db<;>first|exact hr.elim|skip
 ·rename_i p xs ds h e
  obtain⟨h1,h2,hp⟩:=hr;refine⟨p,xs,rfl, .inl (bX.of (s _ _ h)),by rw[qG da];exact h1,by rw[mY e];exact h2,?_⟩
  rw[Dl da e];exact q _ hp _ G H (.refl s) (.bl _)
 ·rename_i p xs ds h e
  obtain⟨h1,h2,hp⟩:=hr;refine⟨p,xs,rfl, .inr (eB.of (s _ _ h)),by rw[qG da];exact h1,by rw[mY e];exact h2,?_⟩
  rw[Dl da e];exact q _ hp _ G H (.refl s) (.bl _)
theorem v5:OpR X (compareOp .In) (bR Z (Lp false)):=DZ.imp Kk
theorem kK:OpR X (compareOp .NotIn) (bR Z (Lp true)):=xT.imp Kk
def P0:fW:=λx y P=>match x,y with
 | .lst l, .int i=>∃d,gv l i=some d/\P d
 | .tup l, .int i=>∃d,gv l i=some d/\P d
 | .lN l, .int i=>∃n,gv l i=some n/\P (.int n)
 |_,_=>False
theorem EF{G:Hp}{vs:List V}{ds:List D}{i:Int}{d:D}(h:DvAll Z G vs ds)(e:gv ds i=some d):∃v,gv vs i=some v/\Dv Z G v d:=by
 unfold gv at e ⊢;rw[h.length];cases z:jD ds.length i with
 |none=>rw[z] at e;cases e
 |some j=>rw[z] at e;exact h.get e
theorem HH{α β:Type}(f:α->β)(l:List α)(i:Int):gv (l.map f) i=(gv l i).map f:=by
 unfold gv;rw[aI];cases jD l.length i with
 |none=>rfl
 |some j=>show(l.map f)[j]? =_;rw[cL];rfl
variable {a b c e:Expr} {ta tb tc te:aY} {pos:Pos}
theorem aJ(ha:DE Z X a ta)(hb:DE Z X b tb)(eK:X.K=Z.K:=by rfl)(hs:u5 b:=by exact λ_ _=>rfl):DE Z X (.Subscript a b pos) (AY P0 ta tb):=by
 refine(JX (Bu.or L3) ha hb hs).imp λσ H Q h=>?_;rfl';obtain⟨G,ρ,P,s,e,h,q⟩:=z8 σ H Q h;ac_rfl;refine⟨G,ρ,P,s,e,h,λd hd v G1 H1 x1 dv=>?_⟩;rfl';obtain⟨G',aD,P',s',e',h',q'⟩:=q d hd v G1 H1 x1 dv;ac_rfl;refine⟨G',aD,P',s',e',h',λd2 hd2 v2 G2 H2 x2 qC=>?_⟩;obtain⟨G,a,b,P,s,da,db,hr,q⟩:=q' d2 hd2 v2 G2 H2 x2 qC;unfold P0 at hr
 split at hr
 ·obtain⟨d,h1,hp⟩:=hr
  obtain⟨_,_,rfl,h,e⟩:=da.iq;obtain⟨v,hv,dv⟩:=EF e h1;exact .inl ⟨_,_,_,v,rfl,db.ofInt,bX.of (s _ _ h),hv,q _ hp _ G _ (.refl s) dv⟩
 ·obtain⟨d,h1,hp⟩:=hr
  obtain⟨_,_,rfl,h,e⟩:=da.lG;obtain⟨v,hv,dv⟩:=EF e h1;exact .inr ⟨_,_,_,v,rfl,db.ofInt,eB.of (s _ _ h),hv,q _ hp _ G _ (.refl s) dv⟩
 rotate_left
 ·exact hr.elim
 ·obtain⟨d,h1,hp⟩:=hr
  rfl';obtain⟨_,rfl,h,_⟩:=da.JG;ac_rfl;refine .inl ⟨_,_,_, .int d,rfl,db.ofInt,by rw[eK];exact h.mono s,by rw[HH,h1];rfl,q _ hp _ G _ (.refl s) (.int d)⟩
def cutD{α:Type}(xs:List α)(lo hi:Option Int):List α:=(xs.drop (HT.bD xs.length 0 lo)).take (HT.bD xs.length xs.length hi-HT.bD xs.length 0 lo)
theorem uJ{G:Hp}{vs:List V}{ds:List D}(h:DvAll Z G vs ds)(lo hi:Option Int):DvAll Z G (tM vs lo hi) (cutD ds lo hi):=by
 unfold tM cutD;rw[h.length];exact(h.drop _).take _
theorem FN{α β:Type}(f:α->β)(l:List α)(lo hi:Option Int):cutD (l.map f) lo hi=(cutD l lo hi).map f:=by
 unfold cutD;rw[aI,r9,sg]
abbrev xr:=DN->(Option Int->Prop)->Prop
def HX:xr:=λ_ P=>P none
def P6(t:aY):xr:=λρ P=>t ρ λd=>match d with
 | .int i=>P (some i)
 |_=>False
def Rf(Z:DC)(t:xr):TO:=λσ H Q=>∃(G:Hp)(ρ:DN)(P:Option Int->Prop),aM G H/\dN Z G σ ρ/\t ρ P/\∀o,P o->∀G' H',Ext G H G' H'->Q o H'
def DO(Z:DC)(X:Cx)(e:Option Expr)(t:xr):Prop:=PO X e (Rf Z t)
theorem PO.imp{e:Option Expr}{t t':TO}(h:PO X e t)(f:∀σ H Q,t' σ H Q->t σ H Q):PO X e t':=λpins s σ H Q I q=>h pins s σ H Q I (f _ _ _ q)
theorem cX:DO Z X none HX:=by
 refine J8.imp λσ H Q g8=>?_;rfl';obtain⟨G,ρ,P,s,e,p,q⟩:=g8;ac_rfl;exact q _ p G H (.refl s)
theorem cY(h:DE Z X e te):DO Z X (some e) (P6 te):=by
 refine(J9 h).imp ?_;intro σ H Q aL;rfl';obtain⟨G,ρ,P,s,e,h,q⟩:=aL;ac_rfl;refine⟨G,ρ,_,s,e,h,λd hd v G1 H1 x1 dv=>?_⟩;cases dv<;>first|exact hd.elim|skip
 exact⟨_,rfl,q _ hd G1 H1 x1⟩
def dSl(te:aY)(tl th:xr):aY:=λρ P=>te ρ λx=>tl ρ λlo=>th ρ λhi=>match x with
 | .lst l=>P (.lst (cutD l lo hi))
 | .tup l=>¬(HT.bD l.length 0 lo=0/\HT.bD l.length l.length hi=l.length)/\P (.tup (cutD l lo hi))
 | .lN l=>P (.lst ((cutD l lo hi).map D.int))
 |_=>False
variable {lo hi:Option Expr} {tl th:xr} {p2:Pos}
theorem cR(he:DE Z X e te)(hl:DO Z X lo tl)(hu:DO Z X hi th)(eK:X.K=Z.K:=by rfl):DE Z X (.Subscript e (.Slice lo hi none p2) pos) (dSl te tl th):=by
 refine(tw (BY.or Fq) he hl hu).imp ?_;intro σ H Q aL;rfl';obtain⟨G,ρ,P,s,en,h,q⟩:=aL;ac_rfl;refine⟨G,ρ,_,s,en,h,λd hd v G1 H1 x1 dv=>?_⟩;refine⟨G1,ρ,_,x1.sub,en.mono x1.gg,hd,λl hl G2 H2 x2=>?_⟩;refine⟨G2,ρ,_,x2.sub,(en.mono x1.gg).mono x2.gg,hl,λu hu G3 H3 x3=>?_⟩;have x:=(x1.trans x2).trans x3;have dv:=(dv.mono x2.gg).mono x3.gg;cases dv<;>first|exact hu.elim|skip
 ·rename_i h e
  exact .inl ⟨_,_,rfl,bX.of (x3.sub _ _ h),λp hn=>q _ hu _ _ _ (x.trans (.new x3.sub hn)) (.lst au ((uJ e l u).mono (aV (x3.sub.free hn) _)))⟩
 ·rename_i h e
  refine .inr ⟨_,_,rfl,eB.of (x3.sub _ _ h),by rw[e.length];exact hu.1,λp hn=>q _ hu.2 _ _ _ (x.trans (.new x3.sub hn)) (.tup au ((uJ e l u).mono (aV (x3.sub.free hn) _)))⟩
 ·rename_i h _
  refine .inl ⟨_,_,rfl,by rw[eK];exact h.mono x3.sub,λp hn=>q _ hu _ _ _ (x.trans (.new x3.sub hn)) (.lst au ?_)⟩
  show DvAll Z _ (cutD _ l u) _;rw[FN];exact .ints _
def eN:bP:=λds P=>match ds with
 | [.lst l]=>P (.int l.length)
 | [.tup l]=>P (.int l.length)
 | [.lN l]=>P (.int l.length)
 |_=>False
theorem aX(eK:X.K=Z.K:=by rfl):cU X (.builtin "len") (jm Z eN):=by
 refine xB.imp ?_;rintro xs H Q ⟨G,ds,P,s,dv,hr,q⟩;unfold eN at hr
 split at hr
 ·obtain⟨_,rfl,a⟩:=dv.ofOne
  obtain⟨_,_,rfl,h,e⟩:=a.iq;exact⟨_,_,rfl, .inl (bX.of (s _ _ h)),by rw[e.length];exact q _ hr _ G H (.refl s) (.int _)⟩
 ·obtain⟨_,rfl,a⟩:=dv.ofOne
  obtain⟨_,_,rfl,h,e⟩:=a.lG;exact⟨_,_,rfl, .inr (eB.of (s _ _ h)),by rw[e.length];exact q _ hr _ G H (.refl s) (.int _)⟩
 ·obtain⟨_,rfl,a⟩:=dv.ofOne
  obtain⟨_,rfl,h,_⟩:=a.JG;exact⟨_,_,rfl, .inl (by rw[eK];exact h.mono s),by rw[aI];exact q _ hr _ G H (.refl s) (.int _)⟩
 ·exact hr.elim
def HJ:bP:=λds P=>match ds with
 | [.lst l]=>P (.lst l)
 | [.tup l]=>P (.lst l)
 |_=>False
theorem qs:cU X (.type "list") (jm Z HJ):=by
 refine xC.imp ?_;rintro xs H Q ⟨G,ds,P,s,dv,hr,q⟩;unfold HJ at hr
 split at hr
 ·obtain⟨_,rfl,a⟩:=dv.ofOne
  obtain⟨_,_,rfl,h,e⟩:=a.iq;exact⟨_,_,rfl, .inl (bX.of (s _ _ h)),λp hn=>q _ hr _ _ _ (.new s hn) (.lst au (e.mono (aV (s.free hn) _)))⟩
 ·obtain⟨_,rfl,a⟩:=dv.ofOne
  obtain⟨_,_,rfl,h,e⟩:=a.lG;exact⟨_,_,rfl, .inr (eB.of (s _ _ h)),λp hn=>q _ hr _ _ _ (.new s hn) (.lst au (e.mono (aV (s.free hn) _)))⟩
 ·exact hr.elim
def EG:bP:=λds P=>match ds with
 | [.lst l]=>P (.tup l)
 | [.tup l]=>P (.tup l)
 |_=>False
theorem FK:cU X (.type "tuple") (jm Z EG):=by
 refine vj.imp ?_;rintro xs H Q ⟨G,ds,P,s,dv,hr,q⟩;unfold EG at hr
 split at hr
 ·obtain⟨_,rfl,a⟩:=dv.ofOne
  obtain⟨_,_,rfl,h,e⟩:=a.iq;exact⟨_,_,rfl, .inl ⟨bX.of (s _ _ h),λp hn=>q _ hr _ _ _ (.new s hn) (.tup au (e.mono (aV (s.free hn) _)))⟩⟩
 ·obtain⟨_,rfl,a⟩:=dv.ofOne
  obtain⟨_,_,rfl,h,e⟩:=a.lG;exact⟨_,_,rfl, .inr ⟨eB.of (s _ _ h),q _ hr _ _ _ (.refl s) (.tup h e)⟩⟩
 ·exact hr.elim
def Wm:String->D->Bool
 |"int", .int _=>true
 |"int", .bl _=>true
 |"bool", .bl _=>true
 |"list", .lst _=>true
 |"tuple", .tup _=>true
 |_,_=>false
def Rk(n:String):Bool:=n=="int"||n=="bool"||n=="list"||n=="tuple"
def OP:D->Bool
 | .aZ=>true
 | .bl _=>true
 | .int _=>true
 | .str _=>true
 | .lst _=>true
 | .tup _=>true
 |_=>false
def Up(n:String)(t:aY):aY:=λρ P=>t ρ λd=>OP d=true/\P (.bl (Wm n d))
theorem Ma{K:PySem.W.Frag}{H:Hp}{v:V}{d:D}{n:String}(hn:Rk n=true)(hd:OP d=true)(h:Dv Z H v d):∃t,jF K H v t/\PySem.W.kitOne K t (.type n)=some (Wm n d):=by
 unfold Rk at hn;rw[Bool.or_eq_true,Bool.or_eq_true,Bool.or_eq_true,beq_iff_eq,beq_iff_eq,beq_iff_eq,beq_iff_eq] at hn;cases h with
 |aZ=>refine⟨_, .aZ,?_⟩;rcases hn with ((rfl|rfl) |rfl) |rfl<;>kernel_rfl
 |bl b=>refine⟨_, .bl b,?_⟩;rcases hn with ((rfl|rfl) |rfl) |rfl<;>kernel_rfl
 |int b=>refine⟨_, .int b,?_⟩;rcases hn with ((rfl|rfl) |rfl) |rfl<;>kernel_rfl
 |str b=>refine⟨_, .str b,?_⟩;rcases hn with ((rfl|rfl) |rfl) |rfl<;>kernel_rfl
 |lst h a=>refine⟨_, .lst h,?_⟩;rcases hn with ((rfl|rfl) |rfl) |rfl<;>kernel_rfl
 |tup h a=>refine⟨_, .tup h,?_⟩;rcases hn with ((rfl|rfl) |rfl) |rfl<;>kernel_rfl
 |_=>cases hd
end
section
variable {Z:DC} {X:Cx} {a b c e:Expr} {ta tb tc te:aY} {pos:Pos}
theorem lC(n:String){x:Str}{p p':Pos}(ha:DE Z X a ta)(hg:Gl X "isinstance")(hm:X.mg "isinstance"=none)(hg':Gl X x)(mI:X.mg x=none)(hv:bootBuiltins x=some (.type n))(ok:Rk n=true:=by decide)
  (hn:x≠"__name__":=by decide) (hd:(x==("__debug__":Str))=false:=by decide) (hs:starEach [a, .Name x p'] X.env=(false,eval a X.env)::starEach [.Name x p'] X.env:=by rfl)
  (eF:(backTo pos (starEach [.Name x p'] X.env)).any (·.1)=false:=by rfl) (gT:starEach [.Name x p'] X.env=(false,eval (.Name x p') X.env)::starEach [] X.env:=by rfl):
  DE Z X (.Call (.Name "isinstance" p) [a, .Name x p'] [] pos) (Up n ta):=by
 have hb:PE X (.Name x p') (tC (.ty n)):=JU hg' mI hv rfl hn hd;refine(tu zB hg hm (by decide+kernel) (bV ha (bV hb dO gT) hs) (by decide) (by decide) hs eF).imp ?_
 intro σ H Q aL;rfl';obtain⟨G,ρ,P,s,e,h,q⟩:=aL;ac_rfl;refine⟨G,ρ,_,s,e,h,?_⟩;rintro d ⟨hk,hp⟩ v G1 H1 x1 dv;obtain⟨t,ht,gS⟩:=Ma (K:=X.K) (H:=H1) ok hk (dv.mono x1.sub);exact⟨v,n,t,_,rfl,ht,gS,q _ hp _ G1 H1 x1 (.bl _)⟩
def sY(Z:DC)(g:fi):TG:=λv σ H Q=>∃(G:Hp)(ρ:DN)(d:D)(P:DN->Prop),aM G H/\dN Z G σ ρ/\Dv Z G v d/\g d ρ P/\∀aD,P aD->∀aC,dN Z G aC aD->Q aC H
def DG(Z:DC)(X:Cx)(e:Expr)(g:fi):Prop:=PG X e (sY Z g)
theorem PG.imp{e:Expr}{t t':TG}(h:PG X e t)(f:∀v σ H Q,t' v σ H Q->t v σ H Q):PG X e t':=λpins s σ H v u Q I r q=>h pins s σ H v u Q I r (f _ _ _ _ q)
def qy(i:Nat):fi:=λd ρ P=>P (ρ.set i (some d))
theorem bF(i:Nat){x:Str}(hN:X.N.Nodup)(hi:X.N[i]? =some x:=by rfl)(hx:Loc X.env.scope x:=by exact Or.inl rfl)(hf:X.fn x=true\/X.env.scope.names.lookup x=some .local:=by first|exact .inl rfl|exact .inr rfl|assumption):DG Z X (.Name x pos) (qy i):=by
 refine(BP hN hi hx hf).imp λv σ H Q Eu=>?_;rfl';obtain⟨G,ρ,d,P,s,e,dv,h,q⟩:=Eu;ac_rfl;exact q _ h _ (e.set dv)
abbrev lV:=List D->DN->(DN->Prop)->Prop
def Me(Z:DC)(g:lV):xu:=λvs σ H Q=>∃(G:Hp)(ρ:DN)(ds:List D)(P:DN->Prop),aM G H/\dN Z G σ ρ/\DvAll Z G vs ds/\g ds ρ P/\∀aD,P aD->∀aC,dN Z G aC aD->Q aC H
def K9(Z:DC)(X:Cx)(es:List Expr)(g:lV):Prop:=zw X es (Me Z g)
theorem zw.imp{es:List Expr}{t t':xu}(h:zw X es t)(f:∀v σ H Q,t' v σ H Q->t v σ H Q):zw X es t':=λpins s σ H v u Q I r q=>h pins s σ H v u Q I r (f _ _ _ _ q)
def Ii:lV:=λds ρ P=>ds= []/\P ρ
def EO(g:fi)(gs:lV):lV:=λds ρ P=>match ds with
 |d::r=>g d ρ λaD=>gs r aD P
 | []=>False
theorem qz:K9 Z X [] Ii:=by
 refine BQ.imp λv σ H Q Eu=>?_;rfl';obtain⟨G,ρ,ds,P,s,e,dv,⟨h,p⟩,q⟩:=Eu;subst h;cases dv;ac_rfl;exact⟨rfl,q _ p _ e⟩
theorem gk{es:List Expr}{g:fi}{gs:lV}(h1:DG Z X e g)(h2:K9 Z X es gs)(hs:(assignEach (e::es) X.env).map (·.2)=assign e X.env::(assignEach es X.env).map (·.2):=by rfl):K9 Z X (e::es) (EO g gs):=by
 refine(yV h1 h2 hs).imp ?_;intro v σ H Q g9;rfl';obtain⟨G,ρ,ds,P,s,e,dv,h,q⟩:=g9;ac_rfl;cases dv with
 |nil=>exact h.elim
 |cons a as=>
  refine⟨_,_,rfl,G,ρ,_,_,s,e,a,h,λaD hp aC e'=>?_⟩;exact⟨G,aD,_,P,s,e',as,hp,q⟩
def zI(n:Nat)(gs:lV):fi:=λd ρ P=>match d with
 | .tup l=>l.length=n/\gs l ρ P
 |_=>False
theorem uL(n:Nat){es:List Expr}{k:Nat}{gs:lV}(hc:X.calm=true)(h:K9 Z X es gs)(hn:(assignEach es X.env).length=n:=by rfl)(kF:(assignEach es X.env).findIdx? (·.1)=none:=by rfl):DG Z X (.Tuple es k pos) (zI n gs):=by
 refine(Ff hc h hn kF).imp ?_;rintro v σ H Q ⟨G,ρ,d,P,s,e,dv,h,q⟩;cases dv<;>first|exact h.elim|skip
 rename_i a xs ds ha es
 exact⟨a,xs,rfl,eB.of (s _ _ ha),by rw[es.length];exact h.1,G,ρ,_,P,s,e,es,h.2,q⟩
def tI(Z:DC)(G:Hp)(J:It)(ds:List D):Prop:=∀G2 H2,aM G G2->aM G2 H2->∀i:Nat,(i<ds.length->J.go i H2)/\(ds.length<=i->J.stop i H2)/\
 ∀x H',i<ds.length->J.yld i H2 x H'->∃G3 d,Ext G2 H2 G3 H'/\ds[i]? =some d/\Dv Z G3 x d
def vS(Z:DC)(wi:iM):TI:=λσ H R=>∃(G:Hp)(ρ:DN)(P:List D->Prop),aM G H/\dN Z G σ ρ/\wi ρ P/\∀ds,P ds->∀J G' H',Ext G H G' H'->tI Z G' J ds->R J H'
def DI(Z:DC)(X:Cx)(tg e:Expr)(wi:iM):Prop:=PI X tg e (vS Z wi)
theorem PI.imp{tg e:Expr}{t t':TI}(h:PI X tg e t)(f:∀σ H Q,t' σ H Q->t σ H Q):PI X tg e t':=λpins s σ H Q I q=>h pins s σ H Q I (f _ _ _ q)
def Qd(t:aY):iM:=λρ P=>t ρ λd=>match d with
 | .lst l=>P l
 |_=>False
theorem Jh{K:PySem.W.Frag}{G:Hp}{a:Addr}{xs:List V}{ds:List D}(h:G a=some (.lst xs))(e:DvAll Z G xs ds):tI Z G (O4 K a) ds:=by
 intro G2 H2 s1 s2 i;have h2:=bX.of (K:=K) (s2 _ _ (s1 _ _ h));have l:=e.length;refine⟨λhi=>⟨xs,xs[i],h2,bL (by omega)⟩,λhi=>⟨xs,h2,by omega⟩,?_⟩
 rintro x H' hi ⟨rfl,hx⟩;obtain⟨d,hd,dv⟩:=e.Be (hx _ h2);exact⟨G2,d, .refl s2,hd,dv.mono s1⟩
theorem bG{tg:Expr}(h:DE Z X e te):DI Z X tg e (Qd te):=by
 refine(J5 h).imp ?_;intro σ H Q aL;rfl';obtain⟨G,ρ,P,s,en,h,q⟩:=aL;ac_rfl;refine⟨G,ρ,_,s,en,h,λd hd v G1 H1 x1 dv=>?_⟩;cases dv<;>first|exact hd.elim|skip
 rename_i ha e
 exact⟨_,rfl,⟨_,bX.of (x1.sub _ _ ha)⟩,q _ hd _ G1 H1 x1 (Jh ha e)⟩
def dk(lo:Int)(n:Nat):List D:=(List.range n).map λ(k:Nat)=>D.int (lo+(k:Int))
theorem tX{lo:Int}{n i:Nat}(h:i<n):(dk lo n)[i]? =some (.int (lo+i)):=by
 unfold dk;rw[cL,ud h];rfl
theorem sT{G:Hp}(lo:Int)(n:Nat):tI Z G (Ht lo n) (dk lo n):=by
 intro G2 H2 s1 s2 i;have l:(dk lo n).length=n:=by unfold dk;simp
 rw[l];refine⟨λhi=>hi,λhi=>hi,?_⟩;rintro x H' hi ⟨rfl,rfl⟩;exact⟨G2,_, .refl s2,tX hi, .int _⟩
def Ov(t:gq):iM:=λρ P=>t ρ λds=>match ds with
 | [.int j]=>(-(2^62)<=j/\j<2^62)/\P (dk 0 j.toNat)
 |_=>False
def Va(t:gq):iM:=λρ P=>t ρ λds=>match ds with
 | [.int i, .int j]=>(-(2^62)<=i/\i<2^62/\-(2^62)<=j/\j<2^62)/\P (dk i (j-i).toNat)
 |_=>False
variable {t:gq}
theorem pJ{tg:Expr}{p:Pos}(hg:Gl X "range")(hm:X.mg "range"=none)(ha:DA Z X [a] t)(hs:starEach [a] X.env= [(false,eval a X.env)]:=by rfl):DI Z X tg (.Call (.Name "range" p) [a] [] pos) (Ov t):=by
 refine(wz hg hm ha hs).imp ?_;intro σ H Q aL;rfl';obtain⟨G,ρ,P,s,en,h,q⟩:=aL;ac_rfl;refine⟨G,ρ,_,s,en,h,λds hd vs G1 H1 x1 dv=>?_⟩
 split at hd
 ·obtain⟨_,rfl,a⟩:=dv.ofOne
  exact⟨_,by rw[a.ofInt],hd.1.1,hd.1.2,q _ hd.2 _ G1 H1 x1 (sT 0 _)⟩
 ·exact hd.elim
def fv(l:List D):List D:=l.mapIdx λi x=> .tup [.int (i:Int),x]
def Lz(t:gq):iM:=λρ P=>t ρ λds=>match ds with
 | [.lst l]=>P (fv l)
 |_=>False
theorem Jg{K:PySem.W.Frag}{G:Hp}{a:Addr}{xs:List V}{ds:List D}(h:G a=some (.lst xs))(e:DvAll Z G xs ds):tI Z G (O3 K a) (fv ds):=by
 intro G2 H2 s1 s2 i;have h2:=bX.of (K:=K) (s2 _ _ (s1 _ _ h));have l:=e.length;rw[show(fv ds).length=ds.length by unfold fv;simp]
 refine⟨λhi=>⟨xs,xs[i],h2,bL (by omega)⟩,λhi=>⟨xs,h2,by omega⟩,?_⟩
 rintro x H' hi ⟨t,y,rfl,ht,rfl,hx⟩;obtain⟨d,hd,dv⟩:=e.Be (hx _ h2);refine⟨_,_, .new s2 ht,by unfold fv;rw[List.getElem?_mapIdx,hd];rfl,?_⟩
 exact .tup au (.cons (.int _) (.cons ((dv.mono s1).mono (aV (s2.free ht) _)) .nil))
theorem eC{p:Pos}{es:List Expr}{k1}{tp:Pos}(hg:Gl X "enumerate")(hm:X.mg "enumerate"=none)(ha:DA Z X [a] t)(hs:starEach [a] X.env= [(false,eval a X.env)]:=by rfl):DI Z X (.Tuple es k1 tp) (.Call (.Name "enumerate" p) [a] [] pos) (Lz t):=by
 refine(J4 hg hm ha hs).imp ?_;intro σ H Q aL;rfl';obtain⟨G,ρ,P,s,en,h,q⟩:=aL;ac_rfl;refine⟨G,ρ,_,s,en,h,λds hd vs G1 H1 x1 dv=>?_⟩
 split at hd
 ·obtain⟨_,rfl,a⟩:=dv.ofOne
  obtain⟨_,_,rfl,h,e⟩:=a.iq;exact⟨_,rfl,⟨_,x1.sub _ _ h⟩,q _ hd _ G1 H1 x1 (Jg h e)⟩
 ·exact hd.elim
def rY(l m:List D):List D:=List.zipWith (λx y=> .tup [x,y]) l m
def zf(src:List (Option Nat))(ρ:DN):DN:=src.map λo=>o.bind λi=>(ρ[i]?).bind id
theorem dN.src{G:Hp}{σ:St}{ρ:DN}(e:dN Z G σ ρ)(src:List (Option Nat)):dN Z G (mB src σ) (zf src ρ):=by
 refine⟨by unfold mB zf;simp,λi d h=>?_⟩
 unfold zf at h;unfold mB;rw[cL] at h ⊢;cases k:src[i]? with
 |none=>rw[k] at h;cases h
 |some o=>
  rw[k] at h;cases o with
  |none=>cases h
  |some j=>
   have h':(ρ[j]?).bind id=some d:=Option.some.inj h;cases m:ρ[j]? with
   |none=>rw[m] at h';cases h'
   |some z=>
    rw[m] at h';rfl';have h2:z=some d:=h';subst h2;obtain⟨v,hv,dv⟩:=e.at_ j d m;ac_rfl;exact⟨v,by show some ((σ[j]?).bind id)=_;rw[hv];rfl,dv⟩
def lcW(g:fi)(tt:dJ)(te:aY):List D->DN->List D->(DN->List D->Prop)->Prop
 | [],ρ,acc,N=>N ρ acc
 |x::xs,ρ,acc,N=>g x ρ λbK=>tt bK λb=>if b=true then te bK λd=>acc.length<sizeLine/\lcW g tt te xs bK (acc++ [d]) N else lcW g tt te xs bK acc N
def P1(wi:iM)(g:fi)(tt:dJ)(te:aY)(src:List (Option Nat)):aY:=λρ P=>wi ρ λds=>lcW g tt te ds (zf src ρ) [] λ_ out=>P (.lst out)
def oU(g:fi)(tt:dJ)(gh:iM)(g1:fi)(dP:dJ)(te:aY):List D->DN->List D->(List D->Prop)->Prop
 | [],_,acc,P=>P acc
 |x::xs,ρ,acc,P=>g x ρ λbK=>tt bK λb=>if b=true then gh bK λes=>lcW g1 dP te es bK acc λfm u6=>oU g tt gh g1 dP te xs fm u6 P else oU g tt gh g1 dP te xs bK acc P
def Ol(wi:iM)(g:fi)(tt:dJ)(gh:iM)(g1:fi)(dP:dJ)(te:aY)(src:List (Option Nat)):aY:=λρ P=>wi ρ λds=>oU g tt gh g1 dP te ds (zf src ρ) [] λout=>P (.lst out)
def tN:dJ:=λ_ P=>P true
def AB(Z:DC)(X:Cx)(ifs:List Expr)(t:dJ):Prop:=mM X ifs (liftT Z t)
theorem mM.imp{ifs:List Expr}{t t':TT}(h:mM X ifs t)(f:∀σ H Q,t' σ H Q->t σ H Q):mM X ifs t':=λpins s σ H Q I q=>h pins s σ H Q I (f _ _ _ q)
theorem cZ:AB Z X [] tN:=by
 refine Kc.imp λσ H Q g8=>?_;rfl';obtain⟨G,ρ,P,s,e,p,q⟩:=g8;ac_rfl;exact q _ p G H (.refl s)
theorem mU{tA:dJ}(h:DT Z X c tA):AB Z X [c] tA:=Kd h
def CS(Z:DC)(G1 H1:Hp)(Ad:Addr)(ρ:DN)(acc:List D)(σ:St)(H:Hp):Prop:=
 ∃(G:Hp)(ys:List V),aM G1 G/\aM G H/\aM H1 H/\(∀b,H1 b≠none->G1 b=none->G b=none)/\G Ad=none/\H Ad=some (.lst ys)/\DvAll Z G ys acc/\dN Z G σ ρ
theorem eH{H H':Hp}(s:aM H H'){b:Addr}(h:H b≠none):H' b≠none:=λz=>by
 cases e:H b with
 |none=>exact h e
 |some o=>rw[s b o e] at z;cases z
theorem qA{α:Type}{l:List α}{i:Nat}{x:α}(h:l[i]? =some x):l.drop i=x::l.drop (i+1):=by
 obtain⟨hi,e⟩:=cT.mp h;rw[Co hi,e]
theorem yG{G1 H1:Hp}{Ad:Addr}{J:It}{ds:List D}{g:fi}{tt:dJ}{te:aY}{N:DN->List D->Prop}(hA:H1 Ad=none)(G0:Hp)(it:tI Z G0 J ds)(i:Nat)(ρ:DN)(acc:List D)(σ:St)(H:Hp)
  (c:CS Z G1 H1 Ad ρ acc σ H) (hG:∀G,aM G1 G->aM G0 G) (hi:i<ds.length) (h:lcW g tt te (ds.drop i) ρ acc N):
  J.go i H/\∀x H3,J.yld i H x H3->sY Z g x σ H3 λfG H4=>liftT Z tt fG H4 λb H5=>
   if b=true then eG Z te fG H5 λv H6=>∃ys,H6 Ad=some (.lst ys)/\ys.length<sizeLine/\(∃aD eM,CS Z G1 H1 Ad aD eM fG (upd H6 Ad (.lst (ys++ [v])))/\lcW g tt te (ds.drop (i+1)) aD eM N)
   else ∃aD eM,CS Z G1 H1 Ad aD eM fG H5/\lcW g tt te (ds.drop (i+1)) aD eM N:=by
 rfl';obtain⟨G2,ys,s1,s2,s3,off,gA,uo,bu,en⟩:=c;obtain⟨go,_,yld⟩:=it G2 H (hG _ s1) s2 i;ac_rfl;refine⟨go hi,λx H3 y=>?_⟩;rfl';obtain⟨G3,d,x3,hd,dv⟩:=yld x H3 hi y;rw[qA hd] at h;ac_rfl;refine⟨G3,ρ,d,_,x3.sub,en.mono x3.gg,dv,h,λbK h1 fG zM=>?_⟩;refine⟨G3,bK,_,x3.sub,zM,h1,λb hb G5 H5 x5=>?_⟩;have n5:=x3.trans x5;have yR:∀{G uh:Hp},Ext G2 H G uh->G Ad=none:=λx=>x.off Ad (by rw[uo];exact λz=>nomatch z) gA
 have BH:∀{G uh:Hp},Ext G2 H G uh->∀b,H1 b≠none->G1 b=none->G b=none:=λx b h1 h2=>x.off b (eH s3 h1) (off b h1 h2);cases b with
 |false=>
  refine bH ⟨bK,acc,⟨G5,ys,s1.trans n5.gg,n5.sub,s3.trans n5.hh,BH n5,yR n5,n5.hh _ _ uo,bu.mono n5.gg,zM.mono x5.gg⟩,?_⟩;simpa using hb
 |true=>
  refine b9 ⟨G5,bK,_,x5.sub,zM.mono x5.gg,(by simpa using hb),λd' jf v G6 H6 x6 dv6=>?_⟩
  have x:=n5.trans x6;refine⟨ys,x.hh _ _ uo,by rw[bu.length];exact jf.1,bK,_,⟨G6,ys++ [v],s1.trans x.gg,λb o e=>?_,λb o e=>?_,BH x,yR x,au,(bu.mono x.gg).snoc dv6,(zM.mono x5.gg).mono x6.gg⟩,jf.2⟩
  ·rw[aw (aU e (yR x))];exact x.sub _ _ e
  ·rw[aw (aU e hA)];exact(s3.trans x.hh) _ _ e
theorem CS.done{G H G1 H1 H2:Hp}{Ad:Addr}{ρ:DN}{acc:List D}{σ:St}(c:CS Z G1 H1 Ad ρ acc σ H2)(x1:Ext G H G1 H1)(hA:H1 Ad=none):∃G',Ext G H G' H2/\Dv Z G' (.ref Ad) (.lst acc):=by
 rfl';obtain⟨G2,ys,s1,s2,s3,off,gA,uo,bu,en⟩:=c;ac_rfl;refine⟨upd G2 Ad (.lst ys),⟨(x1.gg.trans s1).trans (aV gA _),λb o e=>?_,x1.hh.trans s3,λb hb hg=>?_⟩, .lst au (bu.mono (aV gA _))⟩
 ·by_cases z:b=Ad
  ·subst z;rw[au] at e;cases e;exact uo
  ·rw[aw z] at e;exact s2 _ _ e
 ·have h1:=eH x1.hh hb
  rw[aw (λz=>h1 (by rw[z];exact hA))]
  exact off b h1 (x1.off b hb hg)
theorem CS.begin{G1 H1:Hp}{Ad:Addr}{ρ:DN}{σ:St}(s:aM G1 H1)(hA:H1 Ad=none)(en:dN Z G1 σ ρ):CS Z G1 H1 Ad ρ [] σ (upd H1 Ad (.lst [])):=
 ⟨G1,[], .refl _,λb o e=>by rw[aw (aU e (s.free hA))];exact s _ _ e,aV hA _,λ_ _ h=>h,s.free hA,au, .nil,en⟩
variable {tg iter elt:Expr} {ifs:List Expr} {scope:Scope} {NC:List Str} {src:List (Option Nat)} {wi:iM} {g:fi} {tt:dJ}
theorem E3:∀σ H Q,eG Z (P1 wi g tt te src) σ H Q->Nj (vS Z wi) (sY Z g) (liftT Z tt) (eG Z te) src σ H Q:=by
 intro σ H Q aL;rfl';obtain⟨G,ρ,P,s,en,h,q⟩:=aL;ac_rfl;refine⟨G,ρ,_,s,en,h,λds hd J G1 H1 x1 it Ad hA=>?_⟩;refine⟨λi m fF H2=>m=ds.length-i/\i<=ds.length/\∃fm acc,CS Z G1 H1 Ad fm acc fF H2/\lcW g tt te (ds.drop i) fm acc λ_ out=>P (.lst out),⟨_,rfl,cI _,_,[], .begin x1.sub hA ((en.mono x1.gg).src src),hd⟩,?_⟩;intro i m fF H2 g9;rfl';obtain⟨rfl,hi,fm,acc,c,hl⟩:=g9;ac_rfl
 by_cases dZ:i<ds.length
 ·obtain⟨go,turn⟩:=yG hA G1 it i fm acc fF H2 c (λ_ s=>s) dZ hl
  exact .inr ⟨go,_,λaC H' n=>⟨ds.length-(i+1),by omega,rfl,dZ,n⟩,turn⟩
 ·have e:ds.drop i= []:=Cp (by omega)
  rfl';rw[e] at hl;obtain⟨G',x,dv⟩:=c.done x1 hA;obtain⟨G2,ys,s1,s2,_⟩:=c;ac_rfl;exact .inl ⟨(it G2 H2 s1 s2 i).2.1 (by omega),q _ hl _ G' H2 x dv⟩
theorem jc(hc:X.calm=true)(c:cE X scope)(fH:dR scope X.N src NC)(hi:DI Z X tg iter wi)
  (hg:∀ex s H,DG Z (dA X scope NC ex s H) tg g) (ht:∀ex s H,AB Z (dA X scope NC ex s H) ifs tt) (he:∀ex s H,DE Z (dA X scope NC ex s H) elt te)
  (hs:∀x,foldedSetIterable iter X.env x=pure x:=by intro _;rfl):DE Z X (.ListComp elt [⟨tg,iter,ifs,0⟩] scope pos) (P1 wi g tt te src):=(JY hc c fH hi hg ht he hs).imp E3
variable {t0 i0 t1 i1:Expr} {f0 f1:List Expr} {gh:iM} {g1:fi} {dP:dJ}
theorem Jq:∀σ H Q,eG Z (Ol wi g tt gh g1 dP te src) σ H Q->OU (vS Z wi) (sY Z g) (liftT Z tt) (vS Z gh) (sY Z g1) (liftT Z dP) (eG Z te) src σ H Q:=by
 intro σ H Q aL;rfl';obtain⟨G,ρ,P,s,en,h,q⟩:=aL;ac_rfl;refine⟨G,ρ,_,s,en,h,λds hd J G1 H1 x1 it Ad hA=>?_⟩;refine⟨λi m fF H2=>m=ds.length-i/\i<=ds.length/\∃fm acc,CS Z G1 H1 Ad fm acc fF H2/\oU g tt gh g1 dP te (ds.drop i) fm acc λout=>P (.lst out),⟨_,rfl,cI _,_,[], .begin x1.sub hA ((en.mono x1.gg).src src),hd⟩,?_⟩;intro i m fF H2 g9;rfl';obtain⟨rfl,hi,fm,acc,c,hl⟩:=g9;ac_rfl
 by_cases dZ:i<ds.length
 ·have c0:=c
  rfl';obtain⟨G2,ys,s1,s2,s3,off,gA,uo,bu,en2⟩:=c;obtain⟨go,_,yld⟩:=it G2 H2 s1 s2 i;ac_rfl;refine .inr ⟨go dZ,λaC H'=>∃aD eM,CS Z G1 H1 Ad aD eM aC H'/\oU g tt gh g1 dP te (ds.drop (i+1)) aD eM λout=>P (.lst out),λaC H' n=>⟨ds.length-(i+1),by omega,rfl,dZ,n⟩,λx H3 y=>?_⟩
  rfl';obtain⟨G3,d,x3,QB,dv⟩:=yld x H3 dZ y;rw[qA QB] at hl;ac_rfl;refine⟨G3,fm,d,_,x3.sub,en2.mono x3.gg,dv,hl,λbK h1 fG zM=>?_⟩;refine⟨G3,bK,_,x3.sub,zM,h1,λb hb G5 H5 x5=>?_⟩;have n5:=x3.trans x5;have yR:∀{G uh:Hp},Ext G2 H2 G uh->G Ad=none:=λx=>x.off Ad (by rw[uo];exact λz=>nomatch z) gA
  have BH:∀{G uh:Hp},Ext G2 H2 G uh->∀b,H1 b≠none->G1 b=none->G b=none:=λx b h1 h2=>x.off b (eH s3 h1) (off b h1 h2);cases b with
  |false=>exact bH ⟨bK,acc,⟨G5,ys,s1.trans n5.gg,n5.sub,s3.trans n5.hh,BH n5,yR n5,n5.hh _ _ uo,bu.mono n5.gg,zM.mono x5.gg⟩,by simpa using hb⟩
  |true=>
   refine b9 ⟨G5,bK,_,x5.sub,zM.mono x5.gg,(by simpa using hb),λes hes J1 G6 H6 x6 Jf=>?_⟩
   have x:=n5.trans x6;have c6:CS Z G6 H6 Ad bK acc fG H6->True:=λ_=>trivial
   refine⟨λk m sh H7=>m=es.length-k/\k<=es.length/\∃(K6:DN)(AG:List D),(∃(G:Hp)(ys:List V),aM G6 G/\aM G H7/\aM H1 H7/\(∀b,H1 b≠none->G1 b=none->G b=none)/\G Ad=none/\H7 Ad=some (.lst ys)/\DvAll Z G ys AG/\dN Z G sh K6)/\
    lcW g1 dP te (es.drop k) K6 AG λfm u6=>oU g tt gh g1 dP te (ds.drop (i+1)) fm u6 λout=>P (.lst out),
    ⟨_,rfl,cI _,bK,acc,⟨G6,ys, .refl _,x.sub,s3.trans x.hh,BH x,yR x,x.hh _ _ uo,bu.mono x.gg,(zM.mono x5.gg).mono x6.gg⟩,hes⟩,?_⟩
   intro k m sh H7 g9;rfl';obtain⟨rfl,hk,K6,AG,⟨G7,Nr,a1,a2,a3,a4,a5,a6,a7,a8⟩,LS⟩:=g9;ac_rfl;have g16:aM G1 G6:=s1.trans x.gg
   by_cases IU:k<es.length
   ·obtain⟨go1,_,aaj⟩:=Jf G7 H7 a1 a2 k
    refine .inr ⟨go1 IU,λaC H'=>∃(aD:DN)(eM:List D),(∃(G:Hp)(ys:List V),aM G6 G/\aM G H'/\aM H1 H'/\(∀b,H1 b≠none->G1 b=none->G b=none)/\G Ad=none/\H' Ad=some (.lst ys)/\DvAll Z G ys eM/\dN Z G aC aD)/\
     lcW g1 dP te (es.drop (k+1)) aD eM λfm u6=>oU g tt gh g1 dP te (ds.drop (i+1)) fm u6 λout=>P (.lst out),λaC H' n=>⟨es.length-(k+1),by omega,rfl,IU,n⟩,λy H8 hy=>?_⟩
    rfl';obtain⟨G8,d8,x8,hd8,dv8⟩:=aaj y H8 IU hy;rw[qA hd8] at LS;ac_rfl;refine⟨G8,K6,d8,_,x8.sub,a8.mono x8.gg,dv8,LS,λNw h9 σ9 LD=>?_⟩;refine⟨G8,Nw,_,x8.sub,LD,h9,λb hb Sh Lb K4=>?_⟩;have xx:=x8.trans K4;have oA:∀{G uh:Hp},Ext G7 H7 G uh->G Ad=none:=λx=>x.off Ad (by rw[a6];exact λz=>nomatch z) a5
    have oB:∀{G uh:Hp},Ext G7 H7 G uh->∀b,H1 b≠none->G1 b=none->G b=none:=λx b h1 h2=>x.off b (eH a3 h1) (a4 b h1 h2);cases b with
    |false=>exact bH ⟨Nw,AG,⟨Sh,Nr,a1.trans xx.gg,xx.sub,a3.trans xx.hh,oB xx,oA xx,xx.hh _ _ a6,a7.mono xx.gg,LD.mono K4.gg⟩,by simpa using hb⟩
    |true=>
     refine b9 ⟨Sh,Nw,_,K4.sub,LD.mono K4.gg,(by simpa using hb),λd' jf v G11 O0 x11 Vd=>?_⟩
     have xz:=xx.trans x11;refine⟨Nr,xz.hh _ _ a6,by rw[a7.length];exact jf.1,Nw,_,⟨G11,Nr++ [v],a1.trans xz.gg,λb o e=>?_,λb o e=>?_,oB xz,oA xz,au,(a7.mono xz.gg).snoc Vd,(LD.mono K4.gg).mono x11.gg⟩,jf.2⟩
     ·rw[aw (aU e (oA xz))];exact xz.sub _ _ e
     ·rw[aw (aU e hA)];exact(a3.trans xz.hh) _ _ e
   ·have e:es.drop k= []:=Cp (by omega)
    rw[e] at LS;exact .inl ⟨(Jf G7 H7 a1 a2 k).2.1 (by omega),K6,AG,⟨G7,Nr,g16.trans a1,a2,a3,a4,a5,a6,a7,a8⟩,LS⟩
 ·have e:ds.drop i= []:=Cp (by omega)
  rfl';rw[e] at hl;obtain⟨G',x,dv⟩:=c.done x1 hA;obtain⟨G2,ys,s1,s2,_⟩:=c;ac_rfl;exact .inl ⟨(it G2 H2 s1 s2 i).2.1 (by omega),q _ hl _ G' H2 x dv⟩
theorem Lw(hc:X.calm=true)(c:cE X scope)(fH:dR scope X.N src NC)(hi:DI Z X t0 i0 wi)
  (hg:∀ex s H,DG Z (dA X scope NC ex s H) t0 g) (ht:∀ex s H,AB Z (dA X scope NC ex s H) f0 tt) (pP:∀ex s H,DI Z (dA X scope NC ex s H) t1 i1 gh) (IT:∀ex s H,DG Z (dA X scope NC ex s H) t1 g1)
  (Ja:∀ex s H,AB Z (dA X scope NC ex s H) f1 dP) (he:∀ex s H,DE Z (dA X scope NC ex s H) elt te)
  (hs:∀x,foldedSetIterable i0 X.env x=pure x:=by intro _;rfl) (m8:∀env x,foldedSetIterable i1 env x=pure x:=by intro _ _;rfl):
  DE Z X (.ListComp elt [⟨t0,i0,f0,0⟩,⟨t1,i1,f1,0⟩] scope pos) (Ol wi g tt gh g1 dP te src):=(MI hc c fH hi hg ht pP IT Ja he hs m8).imp Jq
end
inductive bT (R:V->D->List Addr->Prop):List V->List D->List Addr->Prop
 |nil:bT R [] [] []
 |cons {v:V} {vs:List V} {d:D} {ds:List D} {f fs:List Addr}:R v d f->bT R vs ds fs->bT R (v::vs) (d::ds) (f++fs)
def Wn:D->Bool
 | .lst _=>true
 |_=>false
def Own(Z:DC)(G H:Hp):Nat->V->D->List Addr->Prop
 |0,v,d,fp=>Dv Z G v d/\fp= []
 |n+1,v,d,fp=>(∃a xs ds cC,v= .ref a/\d= .lst ds/\H a=some (.lst xs)/\fp=a::cC/\bT (Own Z G H n) xs ds cC)\/(1<=n/\∃a xs ds,v= .ref a/\d= .tup ds/\G a=some (.tup xs)/\bT (λv d f=>(Wn d=true/\Own Z G H n v d f)\/(Wn d=false/\Dv Z G v d/\f= [])) xs ds fp)\/(∃a φ,v= .ref a/\H a=some (.ext φ)/\fp= [a]/\((n=98/\∃b ns,d= .set b ns/\φ=NA b a ns)\/(n=97/\∃k,d= .x k/\FE G a φ k)))
theorem Own.lst{Z:DC}{G H:Hp}{n:Nat}{v:V}{ds:List D}{fp:List Addr}(o:Own Z G H (n+1) v (.lst ds) fp):∃a xs fM cC,v= .ref a/\D.lst ds= .lst fM/\H a=some (.lst xs)/\fp=a::cC/\bT (Own Z G H n) xs fM cC:=by
 rcases o with o| ⟨_,a,xs,ds,_,e,_⟩ | ⟨a,φ,_,_,_,⟨_,b,ns,e,_⟩ | ⟨_,k,e,_⟩⟩
 ·exact o
 ·cases e
 ·cases e
 ·cases e
theorem Own.xA{Z:DC}{G H:Hp}{v:V}{k:XD}{fp:List Addr}(o:Own Z G H 98 v (.x k) fp):∃a φ,v= .ref a/\H a=some (.ext φ)/\fp= [a]/\FE G a φ k:=by
 rcases o with ⟨_,_,_,_,_,e,_⟩ | ⟨_,a,xs,ds,_,e,_⟩ | ⟨a,φ,h1,h2,h3,⟨_,b,ns,e,e2⟩ | ⟨_,k,e,h4⟩⟩
 ·cases e
 ·cases e
 ·cases e
 ·cases e;exact⟨a,φ,h1,h2,h3,h4⟩
theorem Own.one{Z:DC}{G H:Hp}{v:V}{d:D}{fp:List Addr}(o:Own Z G H 1 v d fp):∃a xs ds cC,v= .ref a/\d= .lst ds/\H a=some (.lst xs)/\fp=a::cC/\bT (Own Z G H 0) xs ds cC:=by
 rcases o with o| ⟨z,_⟩ | ⟨_,_,_,_,_,⟨z,_⟩ | ⟨z,_⟩⟩
 ·exact o
 ·exact absurd z (by decide)
 ·exact absurd z (by decide)
 ·exact absurd z (by decide)
theorem bT.imp{R R':V->D->List Addr->Prop}{vs:List V}{ds:List D}{fp:List Addr}(o:bT R vs ds fp)(h:∀v d f,(∀b∈f,b∈fp)->R v d f->R' v d f):bT R' vs ds fp:=by
 induction o with
 |nil=>exact .nil
 |cons a _ ih=>exact .cons (h _ _ _ (λb hb=>mE _ hb) a) (ih λv d f hf r=>h v d f (λb hb=>dQ _ (hf b hb)) r)
theorem bT.length{R:V->D->List Addr->Prop}{vs:List V}{ds:List D}{fp:List Addr}(o:bT R vs ds fp):vs.length=ds.length:=by
 induction o with
 |nil=>rfl
 |cons _ _ ih=>exact congrArg (·+1) ih
section
variable {Z:DC} {G G' H H':Hp}
theorem Own.keep{n:Nat}:∀{v:V}{d:D}{fp:List Addr},Own Z G H n v d fp->aM G G'->(∀b∈fp,H' b=H b)->Own Z G' H' n v d fp:=by
 induction n with
 |zero=>exact λh s _=>⟨h.1.mono s,h.2⟩
 |succ n ih=>
  intro v d fp h s k
  rcases h with ⟨a,xs,ds,cC,hv,hd,ha,hf,ho⟩ | ⟨h1,a,xs,ds,hv,hd,ha,ho⟩ | ⟨a,φ,hv,ha,hf,hx⟩
  ·subst hf
   exact .inl ⟨a,xs,ds,cC,hv,hd,by rw[k a (cw ..)];exact ha,rfl,ho.imp λv d f hb r=>ih r s λb q=>k b (b8 _ (hb b q))⟩
  ·exact .inr (.inl ⟨h1,a,xs,ds,hv,hd,s _ _ ha,ho.imp λv d f hb r=>r.imp (λr=>⟨r.1,ih r.2 s λb q=>k b (hb b q)⟩) λr=>⟨r.1,r.2.1.mono s,r.2.2⟩⟩)
  ·exact .inr (.inr ⟨a,φ,hv,by rw[k a (by rw[hf];exact cw ..)];exact ha,hf,hx.imp id λ⟨h1,k,h2,h3⟩=>⟨h1,k,h2,h3.mono s⟩⟩)
theorem bT.Ox{R:V->D->List Addr->Prop}{vs:List V}{ds:List D}{fp:List Addr}(o:bT R vs ds fp)(k:∀v d f,(∀b∈f,b∈fp)->R v d f->Dv Z G' v d):DvAll Z G' vs ds:=by
 induction o with
 |nil=>exact .nil
 |cons a _ ih=>exact .cons (k _ _ _ (λb hb=>mE _ hb) a) (ih λv d f hf r=>k v d f (λb hb=>dQ _ (hf b hb)) r)
theorem Own.Ow{n:Nat}(o:HO->Prop)(ol:∀xs,o (.lst xs))(oe:∀φ,o (.ext φ)):∀{v:V}{d:D}{fp:List Addr},Own Z G H n v d fp->aM G G'->(∀b∈fp,∀x,o x->H b=some x->G' b=some x)->Dv Z G' v d:=by
 induction n with
 |zero=>exact λh s _=>h.1.mono s
 |succ n ih=>
  intro v d fp h s k
  rcases h with ⟨a,xs,ds,cC,hv,hd,ha,hf,ho⟩ | ⟨_,a,xs,ds,hv,hd,ha,ho⟩ | ⟨a,φ,hv,ha,hf,hx⟩
  ·subst hf hv hd
   exact .lst (k a (cw ..) _ (ol _) ha) (ho.Ox λv d f hf r=>ih r s λb hb=>k b (b8 _ (hf b hb)))
  ·subst hv hd
   exact .tup (s _ _ ha) (ho.Ox λv d f hf r=>r.elim (λr=>ih r.2 s λb hb=>k b (hf b hb)) λr=>r.2.1.mono s)
  ·subst hv hf
   rcases hx with ⟨_,b,ns,hd,hp⟩ | ⟨_,kx,hd,hp⟩
   ·subst hd hp
    exact .set (k a (cw ..) _ (oe _) ha)
   ·subst hd
    exact .x (k a (cw ..) _ (oe _) ha) (hp.mono s)
theorem Own.dv{n:Nat}{v:V}{d:D}{fp:List Addr}(h:Own Z G H n v d fp)(s:aM G G')(k:∀b∈fp,∀o,H b=some o->G' b=some o):Dv Z G' v d:=h.Ow (λ_=>True) (λ_=>trivial) (λ_=>trivial) s λb hb x _ e=>k b hb x e
theorem bT.flat{vs:List V}{ds:List D}{fp:List Addr}(o:bT (Own Z G H 0) vs ds fp):DvAll Z G vs ds/\fp= []:=by
 induction o with
 |nil=>exact⟨.nil,rfl⟩
 |cons a _ ih=>exact⟨.cons a.1 ih.1,by rw[a.2,ih.2];rfl⟩
theorem DvAll.own{vs:List V}{ds:List D}(h:DvAll Z G vs ds):bT (Own Z G H 0) vs ds []:=h.ind (p:=λvs ds=>bT (Own Z G H 0) vs ds []) .nil λa _ b=> .cons (f:= []) (fs:= []) ⟨a,rfl⟩ b
theorem Dv.flat{v:V}{d:D}(h:Dv Z G v d)(f:df d=true):Dv Z G' v d:=by
 cases h with
 |aZ=>exact .aZ
 |bl b=>exact .bl b
 |int i=>exact .int i
 |str x k=>exact .str x k
 |_=>cases f
end
mutual
def ni:D->Bool
 | .aZ=>true
 | .bl _=>true
 | .int _=>true
 | .str _=>true
 | .tup l=>E9 l
 |_=>false
def E9:List D->Bool
 | []=>true
 |d::ds=>ni d&&E9 ds
end
theorem Dv.ni{Z:DC}{G G':Hp}(k:∀b xs,G b=some (.tup xs)->G' b=some (.tup xs)){v:V}{d:D}(h:Dv Z G v d):L2.ni d=true->Dv Z G' v d:=by
 have no:∀{p:Prop}{d:D},L2.ni d=false->L2.ni d=true->p:=λa b=>by rw[a] at b;cases b
 refine Dv.rec (motive_1:=λv d _=>L2.ni d=true->Dv Z G' v d) (motive_2:=λvs ds _=>E9 ds=true->DvAll Z G' vs ds) (λ_=> .aZ) (λb _=> .bl b) (λi _=> .int i) (λx h _=> .str x h) (λ_ _ _=>no (by rw[L2.ni]<;>simp)) (λh _ ih f=> .tup (k _ _ h) (ih (by rw[L2.ni] at f;exact f))) (λ_=>no (by rw[L2.ni]<;>simp)) (λ_=>no (by rw[L2.ni]<;>simp)) (λ_ _=>no (by rw[L2.ni]<;>simp)) (λ_ _ _ _ _ _=>no (by rw[L2.ni]<;>simp)) (λ_=>no (by rw[L2.ni]<;>simp)) (λ_ _=>no (by rw[L2.ni]<;>simp)) (λ_ _ _ _=>no (by rw[L2.ni]<;>simp)) (λ_=> .nil) (λ_ _ i1 i2 f=>?_) h
 rw[E9,iJ] at f;exact .cons (i1 f.1) (i2 f.2)
def JP:HO->Bool
 | .lst _=>true
 | .ext _=>true
 |_=>false
theorem Own.dvL{Z:DC}{G G' H:Hp}{n:Nat}{v:V}{d:D}{fp:List Addr}(h:Own Z G H n v d fp)(s:aM G G')(k:∀b∈fp,∀o,JP o=true->H b=some o->G' b=some o):Dv Z G' v d:=h.Ow (λo=>JP o=true) (λ_=>rfl) (λ_=>rfl) s k
structure Bs where
 G₀:Hp
 H₀:Hp
 Gf:Hp
structure SIx (Z:DC) (B:Bs) (md:List Nat) (ρ:DN) (σ:St) (H G:Hp) (fp:Nat->List Addr):Prop where
 ex:Ext B.G₀ B.H₀ G H
 fl:aM B.Gf G
 len:ρ.length=σ.length
 at_:∀(i:Nat)(d:D),ρ[i]? =some (some d)->∃v,σ[i]? =some (some v)/\Own Z G H (md.getD i 0) v d (fp i)
 nd:∀i,(fp i).Nodup
 ap:∀i j b,i≠j->b∈fp i->b∉fp j
 nw:∀i b,b∈fp i->B.H₀ b=none/\H b≠none/\G b=none
def SI(Z:DC)(B:Bs)(md:List Nat)(ρ:DN)(σ:St)(H:Hp):Prop:=∃G fp,SIx Z B md ρ σ H G fp
def cA:List Nat->DN->DN
 |_,[]=> []
 | [],o::ρ=>o::ρ
 |0::md,o::ρ=>o::cA md ρ
 | (_+1)::md,_::ρ=>none::cA md ρ
theorem qf:∀(md:List Nat)(ρ:DN),(cA md ρ).length=ρ.length
 |md,[]=>by cases md<;>rfl
 | [],o::ρ=>rfl
 |0::md,o::ρ=>by rw[cA,dD,qf md ρ,dD]
 | (_+1)::md,_::ρ=>by rw[cA,dD,qf md ρ,dD]
theorem tB{d:D}:∀(md:List Nat)(ρ:DN)(i:Nat),(cA md ρ)[i]? =some (some d)->md.getD i 0=0/\ρ[i]? =some (some d)
 |md,[],i,h=>by cases md<;>simp[cA] at h
 | [],o::ρ,i,h=>⟨by simp,h⟩
 |0::md,o::ρ,0,h=>⟨rfl,by simpa [cA] using h⟩
 |0::md,o::ρ,i+1,h=>by
  rw[cA,xf] at h;obtain⟨a,b⟩:=tB md ρ i h;exact⟨by rw[rZ];exact a,by rw[xf];exact b⟩
 | (_+1)::md,_::ρ,0,h=>by simp[cA] at h
 | (_+1)::md,_::ρ,i+1,h=>by
  rw[cA,xf] at h;obtain⟨a,b⟩:=tB md ρ i h;exact⟨by rw[rZ];exact a,by rw[xf];exact b⟩
def Cj(md:List Nat):Bool->DN->DN
 |true,ρ=>ρ
 |false,ρ=>cA md ρ
def oF:Bool->D->Prop
 |true,d=>ni d=true
 |false,_=>True
section
variable {Z:DC} {B:Bs} {md:List Nat} {ρ:DN} {σ:St} {H G:Hp} {fp:Nat->List Addr}
theorem Ea{i:Nat}{d:D}(h:(cA md ρ)[i]? =some (some d)):md.getD i 0=0/\ρ[i]? =some (some d):=tB md ρ i h
theorem SIx.mW(S:SIx Z B md ρ σ H G fp):dN Z G σ (cA md ρ):=by
 refine⟨by rw[qf];exact S.len,λi d h=>?_⟩
 obtain⟨z,h⟩:=Ea h;obtain⟨v,hv,o⟩:=S.at_ i d h;rw[z] at o;exact⟨v,hv,o.1⟩
theorem SIx.A8(S:SIx Z B md ρ σ H G fp):dN Z H σ ρ:=by
 refine⟨S.len,λi d h=>?_⟩;obtain⟨v,hv,o⟩:=S.at_ i d h;exact⟨v,hv,o.dv S.ex.sub λb _ u e=>e⟩
theorem SIx.grow{G' H':Hp}(S:SIx Z B md ρ σ H G fp)(x:Ext G H G' H'):SIx Z B md ρ σ H' G' fp where
 ex:=S.ex.trans x
 fl:=S.fl.trans x.gg
 len:=S.len
 at_:=λi d h=>by
  obtain⟨v,hv,o⟩:=S.at_ i d h;refine⟨v,hv,o.keep x.gg λb hb=>?_⟩;cases e:H b with
  |none=>exact absurd e (S.nw i b hb).2.1
  |some u=>exact x.hh _ _ e
 nd:=S.nd
 ap:=S.ap
 nw:=λi b hb=>let ⟨h1,h2,h3⟩:=S.nw i b hb;⟨h1,eH x.hh h2,x.off b h2 h3⟩
theorem Ext.all{G' H':Hp}(s:aM G H)(x:Ext H H G' H'):Ext G H G H':=⟨.refl _,s.trans x.hh,x.hh,λ_ _ h=>h⟩
open Classical in
noncomputable def iD(G H:Hp)(fp:Nat->List Addr):Hp:=λb=>if ∃i,b∈fp i then(match H b with|some (.lst xs)=>some (.lst xs) |some (.ext φ)=>some (.ext φ) |_=>none) else G b
open Classical in
noncomputable def sV(G:Hp)(fp:Nat->List Addr):Hp:=λb=>if ∃i,b∈fp i then none else G b
theorem Hn{b:Addr}{o:HO}(i:Nat)(h:b∈fp i)(ho:JP o=true)(e:H b=some o):iD G H fp b=some o:=by
 unfold iD;rw[if_pos ⟨i,h⟩,e];cases o<;>first|rfl|cases ho
theorem qp{b:Addr}(h:¬∃i,b∈fp i):iD G H fp b=G b:=if_neg h
theorem SIx.OA(S:SIx Z B md ρ σ H G fp):aM G (iD G H fp)/\aM (iD G H fp) H/\dN Z (iD G H fp) σ ρ:=by
 have s1:aM G (iD G H fp):=λb o e=>by
  by_cases h:∃i,b∈fp i
  ·obtain⟨i,hi⟩:=h
   rw[(S.nw i b hi).2.2] at e;cases e
  ·rw[qp h];exact e
 refine⟨s1,λb o e=>?_,S.len,λi d h=>?_⟩
 ·by_cases h:∃i,b∈fp i
  ·unfold iD at e
   rw[if_pos h] at e
   split at e
   ·next xs hx=>rw[hx];exact e
   ·next φ hx=>rw[hx];exact e
   ·cases e
  ·rw[qp h] at e;exact S.ex.sub _ _ e
 ·obtain⟨v,hv,o⟩:=S.at_ i d h
  exact⟨v,hv,o.dvL s1 λb hb u hu hx=>Hn i hb hu hx⟩
theorem SIx.Yu{G' H':Hp}(S:SIx Z B md ρ σ H G fp)(x:Ext (iD G H fp) H G' H'):Ext G H (sV G' fp) H'/\∀b xs,G' b=some (.tup xs)->sV G' fp b=some (.tup xs):=by
 obtain⟨s1,s2,_⟩:=S.OA;refine⟨⟨λb o e=>?_,λb o e=>?_,x.hh,λb hb hg=>?_⟩,λb xs e=>?_⟩
 ·have h:¬∃i,b∈fp i:=by
   rintro⟨i,hi⟩;rw[(S.nw i b hi).2.2] at e;cases e
  unfold sV;rw[if_neg h];exact x.gg _ _ (s1 _ _ e)
 ·unfold sV at e
  split at e
  ·cases e
  ·exact x.sub _ _ e
 ·unfold sV
  split
  ·rfl
  ·next h=>exact x.off b hb (by rw[qp h];exact hg)
 ·have h:¬∃i,b∈fp i:=by
   rintro⟨i,hi⟩;have hb:=(S.nw i b hi).2.1;cases hw:iD G H fp b with
   |none=>rw[x.off b hb hw] at e;cases e
   |some o=>
    have:=x.gg _ _ hw
    rw[e] at this;cases Option.some.inj this;unfold iD at hw;rw[if_pos ⟨i,hi⟩] at hw
    split at hw<;>cases hw
  unfold sV;rw[if_neg h];exact e
theorem SIx.ev{t:aY}{P:D->Prop}{Q:VK}(S:SIx Z B md ρ σ H G fp)(m:Bool)(h:t (Cj md m ρ) P)
  (hq:∀d,P d->oF m d/\∀v G' H',SIx Z B md ρ σ H' G' fp->Ext G H G' H'->Dv Z G' v d->Q v H'):eG Z t σ H Q:=by
 cases m with
 |false=>exact⟨G,_,P,S.ex.sub,S.mW,h,λd hd v G' H' x dv=>(hq d hd).2 v G' H' (S.grow x) x dv⟩
 |true=>
  obtain⟨s1,s2,e⟩:=S.OA;refine⟨iD G H fp,_,P,s2,e,h,λd hd v G' H' x dv=>?_⟩;obtain⟨x',k⟩:=S.Yu x;exact(hq d hd).2 v _ H' (S.grow x') x' (dv.ni k (hq d hd).1)
theorem SIx.Vj{t:dJ}{P:Bool->Prop}{Q:Bool->Hp->Prop}(S:SIx Z B md ρ σ H G fp)(h:t ρ P)(hq:∀b,P b->∀H',SIx Z B md ρ σ H' G fp->Q b H'):liftT Z t σ H Q:=
 ⟨H,ρ,P, .refl _,S.A8,h,λb hb G' H' x=>hq b hb H' (S.grow (Ext.all S.ex.sub x))⟩
theorem SIx.ph{i:Nat}{v:V}{d:D}(S:SIx Z B md ρ σ H G fp)(hm:md.getD i 0=0)(dv:Dv Z G v d):SIx Z B md (ρ.set i (some d)) (σ.set i (some v)) H G (λj=>if j=i then[] else fp j) where
 ex:=S.ex
 fl:=S.fl
 len:=by rw[cM,cM];exact S.len
 at_:=λj c h=>by
  by_cases z:i=j
  ·subst z
   by_cases hi:i<ρ.length
   ·rw[gF hi] at h
    cases Option.some.inj h;exact⟨v,gF (by rw[<-S.len];exact hi),by rw[hm,if_pos rfl];exact⟨dv,rfl⟩⟩
   ·rw[xb (gH hi),eQ (gH hi)] at h;cases h
  ·rw[gG z] at h ⊢
   rw[if_neg (Ne.symm z)];exact S.at_ j c h
 nd:=λj=>by split;exact iL;exact S.nd j
 ap:=λj k b ne hj hk=>by
  split at hj
  ·cases hj
  ·split at hk
   ·cases hk
   ·exact S.ap j k b ne hj hk
 nw:=λj b hb=>by
  split at hb
  ·cases hb
  ·exact S.nw j b hb
theorem SIx.Fp{i n:Nat}{v:V}{d:D}{f:List Addr}(S:SIx Z B md ρ σ H G fp)(hm:md.getD i 0=n)(o:Own Z G H n v d f)(nd:f.Nodup)(nw:∀b∈f,B.H₀ b=none/\H b≠none/\G b=none)(ap:∀b∈f,∀j,j≠i->b∉fp j):
  SIx Z B md (ρ.set i (some d)) (σ.set i (some v)) H G (λj=>if j=i then f else fp j) where
 ex:=S.ex
 fl:=S.fl
 len:=by rw[cM,cM];exact S.len
 at_:=λj c h=>by
  by_cases z:i=j
  ·subst z
   by_cases hi:i<ρ.length
   ·rw[gF hi] at h
    cases Option.some.inj h;exact⟨v,gF (by rw[<-S.len];exact hi),by rw[hm,if_pos rfl];exact o⟩
   ·rw[xb (gH hi),eQ (gH hi)] at h;cases h
  ·rw[gG z] at h ⊢
   rw[if_neg (Ne.symm z)];exact S.at_ j c h
 nd:=λj=>by split;exact nd;exact S.nd j
 ap:=λj k b ne hj hk=>by
  split at hj
  ·next z=>
   rw[if_neg (λw=>ne (z.trans w.symm))] at hk;exact ap b hj k (λw=>ne (z.trans w.symm)) hk
  ·next z=>
   split at hk
   ·exact ap b hk j z hj
   ·exact S.ap j k b ne hj hk
 nw:=λj b hb=>by
  split at hb
  ·exact nw b hb
  ·exact S.nw j b hb
noncomputable def plus(G H:Hp)(F:Addr->Prop):Hp:=λb=>open Classical in if F b then H b else G b
theorem kL{F:Addr->Prop}{b:Addr}(h:F b):plus G H F b=H b:=by unfold plus;rw[if_pos h]
theorem gW{F:Addr->Prop}{b:Addr}(h:¬F b):plus G H F b=G b:=by unfold plus;rw[if_neg h]
theorem i6{F:Addr->Prop}(s:aM G H):aM (plus G H F) H:=λb o e=>by
 by_cases h:F b
 ·rw[kL h] at e;exact e
 ·rw[gW h] at e;exact s _ _ e
theorem fg{F:Addr->Prop}(s:aM G H):aM G (plus G H F):=λb o e=>by
 by_cases h:F b
 ·rw[kL h];exact s _ _ e
 ·rw[gW h];exact e
theorem SIx.evR{t:aY}{P:D->Prop}{Q:VK}(S:SIx Z B md ρ σ H G fp)(h:t ρ P)(hq:∀d,P d->∀v G' H',Ext B.G₀ B.H₀ G' H'->Dv Z G' v d->Q v H'):eG Z t σ H Q:=by
 let F:Addr->Prop:=λb=>∃i,b∈fp i
 have s:=S.ex.sub
 have x0:Ext B.G₀ B.H₀ (plus G H F) H:=⟨S.ex.gg.trans (fg s),i6 s,S.ex.hh,λb hb hg=>by
  rw[gW (λ⟨i,hi⟩=>hb (S.nw i b hi).1)];exact S.ex.off b hb hg⟩
 refine⟨plus G H F,ρ,P,i6 s,⟨S.len,λi d h=>?_⟩,h,λd hd v G' H' x dv=>hq d hd v G' H' (x0.trans x) dv⟩;obtain⟨v,hv,o⟩:=S.at_ i d h;exact⟨v,hv,o.dv (fg s) λb hb u e=>by rw[kL ⟨i,hb⟩];exact e⟩
end
structure fJ where
 nx:DN->Prop
 rt:D->Prop
 bk:DN->Prop:=λ_=>False
 ct:DN->Prop:=λ_=>False
 xc:DN->D->Prop:=λ_ _=>False
abbrev cx:=fJ->DN->Prop
structure Meets (Z:DC) (X:Cx) (B:Bs) (md:List Nat) (rn:Nat) (E:fJ) (Dn:Ends):Prop where
 nx:∀ρ,E.nx ρ->∀σ H,SI Z B md ρ σ H->Dn.nx σ H
 rt:∀d,E.rt d->∀v f G' H',Ext B.G₀ B.H₀ G' H'->Own Z G' H' rn v d f->f.Nodup->(∀b∈f,B.H₀ b=none/\H' b≠none/\G' b=none)->Dn.rt v H'
 bk:∀ρ,E.bk ρ->∀σ H,SI Z B md ρ σ H->Dn.bk σ H
 ct:∀ρ,E.ct ρ->∀σ H,SI Z B md ρ σ H->Dn.ct σ H
 xc:∀ρ d,E.xc ρ d->∀σ H G fp a,SIx Z B md ρ σ H G fp->Dv Z G (.ref a) d->Sn X σ H a
def pT(Z:DC)(X:Cx)(md:List Nat)(rn:Nat)(t:cx):TS:=λDn σ H=>∃(B:Bs)(ρ:DN)(E:fJ),SI Z B md ρ σ H/\t E ρ/\Meets Z X B md rn E Dn
def DSt(Z:DC)(X:Cx)(md:List Nat)(rn:Nat)(st:Stmt)(t:cx):Prop:=PS X st (pT Z X md rn t)
def oK(Z:DC)(X:Cx)(md:List Nat)(rn:Nat)(Ei:List Stmt)(t:cx):Prop:=lj X Ei (pT Z X md rn t)
theorem PS.imp{X:Cx}{st:Stmt}{t t':TS}(h:PS X st t)(f:∀D σ H,t' D σ H->t D σ H):PS X st t':=λpins s σ H D I q=>h pins s σ H D I (f _ _ _ q)
theorem lj.imp{X:Cx}{st:List Stmt}{t t':TS}(h:lj X st t)(f:∀D σ H,t' D σ H->t D σ H):lj X st t':=λpins s σ H D I q=>h pins s σ H D I (f _ _ _ q)
section
variable {Z:DC} {X:Cx} {md:List Nat} {rn:Nat} {st:Stmt} {Ei:List Stmt} {t u:cx} {e:Expr} {te:aY} {pos:Pos}
def CM:cx:=λE ρ=>E.nx ρ
def lX(t u:cx):cx:=λE ρ=>t {E with nx:=u E} ρ
theorem aO:oK Z X md rn [] CM:=by
 refine BS.imp λD σ H g8=>?_;obtain⟨B,ρ,E,S,h,M⟩:=g8;exact M.nx _ h _ _ S
theorem af(h1:DSt Z X md rn st t)(h2:oK Z X md rn Ei u):oK Z X md rn (st::Ei) (lX t u):=by
 refine(gX h1 h2).imp λD σ H g8=>?_;rfl';obtain⟨B,ρ,E,S,h,M⟩:=g8;ac_rfl;exact⟨B,ρ,_,S,h,⟨λaD h' aC H' S'=>⟨B,aD,E,S',h',M⟩,M.rt,M.bk,M.ct,M.xc⟩⟩
theorem ai(h1:DSt Z X md rn st t):oK Z X md rn [st] t:=rF h1
theorem iU:DSt Z X md rn st (λ_ _=>False):=by
 refine GX.imp λD σ H g8=>?_;obtain⟨B,ρ,E,S,h,M⟩:=g8;exact h
def Ou(te:aY):cx:=λE ρ=>te ρ E.rt
theorem aE(he:DE Z X e te):DSt Z X md 0 (.Return (some e) pos) (Ou te):=by
 refine(rD he).imp λD σ H g8=>?_;rfl';obtain⟨B,ρ,E,⟨G,fp,S⟩,h,M⟩:=g8;ac_rfl;exact S.evR h λd hd v G' H' x dv=>M.rt d hd v [] G' H' x ⟨dv,rfl⟩ iL (λb hb=>by cases hb)
def P9(i:Nat):cx:=λE ρ=>∃d,ρ[i]? =some (some d)/\E.rt d
theorem A4(i:Nat){x:Str}{px:Pos}(hm:md.getD i 0=rn:=by rfl)(hi:X.N[i]? =some x:=by rfl)(hv:j5 X.env.scope x:=by first|exact Or.inl rfl|exact Or.inr (Or.inl rfl) |exact Or.inr (Or.inr rfl))(hd:(x==("__debug__":Str))=false:=by decide)(dh:(x==("__classdict__":Str))=false:=by decide):
  DSt Z X md rn (.Return (some (.Name x px)) pos) (P9 i):=by
 refine(rD (Al hi hv hd dh)).imp λD σ H g8=>?_;rfl';obtain⟨B,ρ,E,⟨G,fp,S⟩,⟨d,hd,h⟩,M⟩:=g8;obtain⟨v,hv,o⟩:=S.at_ i d hd;rw[hm] at o;ac_rfl;exact⟨v,hv,M.rt d h v (fp i) G H S.ex o (S.nd i) (S.nw i)⟩
def HW(c:dJ)(t u:cx):cx:=λE ρ=>c ρ λb=>if b=true then t E ρ else u E ρ
theorem bh{c:Expr}{a b:List Stmt}{tc:dJ}(hc:DT Z X c tc)(ha:oK Z X md rn a t)(hb:oK Z X md rn b u):DSt Z X md rn (.If c a b pos) (HW tc t u):=by
 refine(Ka hc ha hb).imp ?_;intro D σ H aL;rfl';obtain⟨B,ρ,E,⟨G,fp,S⟩,h,M⟩:=aL;ac_rfl;refine S.Vj h λb hb H' S'=>?_;cases b with
 |true=>exact b9 ⟨B,ρ,E,⟨G,fp,S'⟩,(hb),M⟩
 |false=>exact bH ⟨B,ρ,E,⟨G,fp,S'⟩,(hb),M⟩
def EL(md:List Nat)(m:Bool)(i:Nat)(te:aY):cx:=λE ρ=>te (Cj md m ρ) λd=>oF m d/\E.nx (ρ.set i (some d))
theorem aH(m:Bool)(i:Nat){x:Str}{pos':Pos}(hN:X.N.Nodup)(he:DE Z X e te)(hm:md.getD i 0=0:=by rfl)(hi:X.N[i]? =some x:=by rfl)(hx:Loc X.env.scope x:=by first|exact Or.inl rfl|exact Or.inr rfl)(hs:swapsWith e (some (.Name x pos')) pos.line X.env=pure false:=by rfl)
  (hf:X.fn x=true\/X.env.scope.names.lookup x=some .local:=by first|exact .inl rfl|exact .inr rfl|assumption):DSt Z X md rn (.Assign [.Name x pos'] e pos) (EL md m i te):=by
 refine(jM hN hi hx he hs hf).imp ?_;intro D σ H aL;rfl';obtain⟨B,ρ,E,⟨G,fp,S⟩,h,M⟩:=aL;ac_rfl;exact S.ev m h λd hd=>⟨hd.1,λv G' H' S' x dv=>M.nx _ hd.2 _ _ ⟨G',_,S'.ph hm dv⟩⟩
theorem yi(i:Nat){x:Str}{px t9:Pos}{tg iter elt:Expr}{ifs:List Expr}{scope:Scope}{NC:List Str}{src:List (Option Nat)}{wi:iM}{g:fi}{tt:dJ}(hc:X.calm=true)(hN:X.N.Nodup)(c:cE X scope)(fH:dR scope X.N src NC)(hi:DI Z X tg iter wi)
  (hg:∀ex s H,DG Z (dA X scope NC ex s H) tg g) (ht:∀ex s H,AB Z (dA X scope NC ex s H) ifs tt) (he:∀ex s H,DE Z (dA X scope NC ex s H) elt te)
  (j6:swapsWith (.ListComp elt [⟨tg,iter,ifs,0⟩] scope pos) (some (.Name x px)) t9.line X.env=pure true:=by rfl) (hm:md.getD i 0=0:=by rfl) (iP:X.N[i]? =some x:=by rfl) (hx:Loc X.env.scope x:=by first|exact Or.inl rfl|exact Or.inr rfl)
  (hf:X.fn x=true\/X.env.scope.names.lookup x=some .local:=by first|exact .inl rfl|exact .inr rfl|assumption)
  (hs:∀x,foldedSetIterable iter X.env x=pure x:=by intro _;rfl):DSt Z X md rn (.Assign [.Name x px] (.ListComp elt [⟨tg,iter,ifs,0⟩] scope pos) t9) (EL md false i (P1 wi g tt te src)):=by
 refine(yY hc hN iP hx c fH hi hg ht he j6 hf hs).imp ?_;intro D σ H aL;rfl';obtain⟨B,ρ,E,⟨G,fp,S⟩,h,M⟩:=aL;ac_rfl;refine E3 σ H _ (S.ev false h λd hd=>⟨hd.1,λv G' H' S' x dv=>M.nx _ hd.2 _ _ ⟨G',_,S'.ph hm dv⟩⟩)
end
end L2
namespace L2
open PySem PySem.Spec PyProof.Rows
section
variable {Z:DC} {X:Cx} {B:Bs} {md:List Nat} {rn:Nat} {ρ:DN} {σ:St} {H G:Hp} {fp:Nat->List Addr}
def E1(Z:DC)(md:List Nat)(g:fi):TG:=λv σ H Q=>∃(B:Bs)(ρ:DN)(d:D)(P:DN->Prop)(G:Hp)(fp:Nat->List Addr),SIx Z B md ρ σ H G fp/\Dv Z G v d/\g d ρ P/\∀aD,P aD->∀aC zP,SIx Z B md aD aC H G zP->Q aC H
def Jp(Z:DC)(md:List Nat)(g:lV):xu:=λvs σ H Q=>∃(B:Bs)(ρ:DN)(ds:List D)(P:DN->Prop)(G:Hp)(fp:Nat->List Addr),SIx Z B md ρ σ H G fp/\DvAll Z G vs ds/\g ds ρ P/\∀aD,P aD->∀aC zP,SIx Z B md aD aC H G zP->Q aC H
def FC(Z:DC)(X:Cx)(md:List Nat)(e:Expr)(g:fi):Prop:=PG X e (E1 Z md g)
def ED(Z:DC)(X:Cx)(md:List Nat)(es:List Expr)(g:lV):Prop:=zw X es (Jp Z md g)
theorem aG(i:Nat){x:Str}{pos:Pos}(hN:X.N.Nodup)(hm:md.getD i 0=0:=by rfl)(hi:X.N[i]? =some x:=by rfl)(hx:Loc X.env.scope x:=by first|exact Or.inl rfl|exact Or.inr rfl)(hf:X.fn x=true\/X.env.scope.names.lookup x=some .local:=by first|exact .inl rfl|exact .inr rfl|assumption):FC Z X md (.Name x pos) (qy i):=by
 refine(BP hN hi hx hf).imp λv σ H Q Eu=>?_;rfl';obtain⟨B,ρ,d,P,G,fp,S,dv,h,q⟩:=Eu;ac_rfl;exact q _ h _ _ (S.ph hm dv)
theorem b7:ED Z X md [] Ii:=by
 refine BQ.imp λv σ H Q Eu=>?_;rfl';obtain⟨B,ρ,ds,P,G,fp,S,dv,⟨h,p⟩,q⟩:=Eu;subst h;cases dv;ac_rfl;exact⟨rfl,q _ p _ _ S⟩
theorem aN{e:Expr}{es:List Expr}{g:fi}{gs:lV}(h1:FC Z X md e g)(h2:ED Z X md es gs)(hs:(assignEach (e::es) X.env).map (·.2)=assign e X.env::(assignEach es X.env).map (·.2):=by rfl):ED Z X md (e::es) (EO g gs):=by
 refine(yV h1 h2 hs).imp ?_;intro v σ H Q g9;rfl';obtain⟨B,ρ,ds,P,G,fp,S,dv,h,q⟩:=g9;ac_rfl;cases dv with
 |nil=>exact h.elim
 |cons a as=>exact⟨_,_,rfl,B,ρ,_,_,G,fp,S,a,h,λaD hp aC zP S'=>⟨B,aD,_,P,G,zP,S',as,hp,q⟩⟩
theorem eu(n:Nat){es:List Expr}{k:Nat}{pos:Pos}{gs:lV}(hc:X.calm=true)(h:ED Z X md es gs)(hn:(assignEach es X.env).length=n:=by rfl)(kF:(assignEach es X.env).findIdx? (·.1)=none:=by rfl):FC Z X md (.Tuple es k pos) (zI n gs):=by
 refine(Ff hc h hn kF).imp ?_;rintro v σ H Q ⟨B,ρ,d,P,G,fp,S,dv,h,q⟩;cases dv<;>first|exact h.elim|skip
 rename_i a xs ds ha es
 exact⟨a,xs,rfl,eB.of (S.ex.sub _ _ ha),by rw[es.length];exact h.1,B,ρ,_,P,G,fp,S,es,h.2,q⟩
def Uk(md:List Nat)(te:aY)(g:fi):cx:=λE ρ=>te (cA md ρ) λd=>g d ρ E.nx
theorem uM{tg e:Expr}{te:aY}{g:fi}{pos:Pos}(he:DE Z X e te)(hg:FC Z X md tg g)(hs:swapsWithSole [tg] e pos.line X.env=pure false:=by rfl)(hw:swappedStores [tg] e X.env=pure none:=by rfl)
  (h1:(assignEach [tg] X.env).map (·.2)= [assign tg X.env]:=by rfl):DSt Z X md rn (.Assign [tg] e pos) (Uk md te g):=by
 refine(oJ he hg hs hw h1).imp ?_;intro D σ H aL;rfl';obtain⟨B,ρ,E,⟨G,fp,S⟩,h,M⟩:=aL;ac_rfl;exact S.ev false h λd hd=>⟨trivial,λv G' H' S' x dv=>⟨B,ρ,d,E.nx,G',fp,S',dv,hd,λaD h' aC zP S2=>M.nx _ h' _ _ ⟨G',zP,S2⟩⟩⟩
def lY(g:fi)(tb:cx)(E:fJ):List D->DN->Prop
 | [],ρ=>E.nx ρ
 |x::xs,ρ=>g x ρ λbK=>tb {nx:=lY g tb E xs,ct:=lY g tb E xs,bk:=E.nx,rt:=E.rt,xc:=E.xc} bK
def Oh(md:List Nat)(m:Bool)(wi:iM)(g:fi)(tb:cx):cx:=λE ρ=>wi (Cj md m ρ) λds=>lY g tb E ds ρ
theorem yy{D':Ends}{J:It}{ds:List D}{g:fi}{tb:cx}{E:fJ}(S:SIx Z B md ρ σ H G fp)(it:tI Z G J ds)(hd:lY g tb E ds ρ)(M:Meets Z X B md rn E D'):
  ∃W:Nat->Nat->St->Hp->Prop,(∃m,W 0 m σ H)/\∀i m σ H,W i m σ H->
   (J.stop i H/\D'.nx σ H)\/(J.go i H/\∃N:St->Hp->Prop,(∀aC H',N aC H'->∃m',m'<m/\W (i+1) m' aC H')/\∀x H',J.yld i H x H'->E1 Z md g x σ H' λfF H2=>pT Z X md rn tb {D' with nx:=N,ct:=N,bk:=D'.nx} fF H2):=by
 let B1:Bs:={B with Gf:=G}
 have back:∀ρ σ H,SI Z B1 md ρ σ H->SI Z B md ρ σ H:=λρ σ H ⟨G2,Bd,S2⟩=>⟨G2,Bd,⟨S2.ex,S.fl.trans S2.fl,S2.len,S2.at_,S2.nd,S2.ap,S2.nw⟩⟩;have S1:SIx Z B1 md ρ σ H G fp:=⟨S.ex, .refl _,S.len,S.at_,S.nd,S.ap,S.nw⟩;refine⟨λi m σ H=>m=ds.length-i/\i<=ds.length/\∃ρ,SI Z B1 md ρ σ H/\lY g tb E (ds.drop i) ρ,⟨_,rfl,cI _,ρ,⟨G,fp,S1⟩,hd⟩,?_⟩;intro i m fF H2 g9;rfl';obtain⟨rfl,hi,fm,⟨G2,Bd,S2⟩,hf⟩:=g9;obtain⟨go,stop,yld⟩:=it G2 H2 S2.fl S2.ex.sub i;ac_rfl
 by_cases dZ:i<ds.length
 ·refine .inr ⟨go dZ,λaC H'=>∃aD,SI Z B1 md aD aC H'/\lY g tb E (ds.drop (i+1)) aD,λaC H' n=>⟨ds.length-(i+1),by omega,rfl,dZ,n⟩,λx H' y=>?_⟩
  rfl';obtain⟨G3,d,x3,QB,dv⟩:=yld x H' dZ y;rw[qA QB] at hf;ac_rfl;refine⟨B1,fm,d,_,G3,Bd,S2.grow x3,dv,hf,λρ4 h4 fG fp4 S4=>?_⟩;exact⟨B1,ρ4,_,⟨G3,fp4,S4⟩,h4,⟨λaD h' aC H' s'=>⟨aD,s',h'⟩,M.rt,λaD h' aC H' s'=>M.nx _ h' _ _ (back _ _ _ s'),λaD h' aC H' s'=>⟨aD,s',h'⟩,λaD d h' aC H' G' zP a' s' lD=>M.xc aD d h' aC H' G' zP a' ⟨s'.ex,S.fl.trans s'.fl,s'.len,s'.at_,s'.nd,s'.ap,s'.nw⟩ lD⟩⟩
 ·have e:ds.drop i= []:=Cp (by omega)
  rw[e] at hf;exact .inl ⟨stop (by omega),M.nx _ hf _ _ (back _ _ _ ⟨G2,Bd,S2⟩)⟩
variable {tg iter:Expr} {body:List Stmt} {wi:iM} {g:fi} {tb:cx} {pos:Pos}
theorem cu(hc:X.calm=true)(hp:PassesOwn (model X.prog X.w) X.A X.env X.xe)(hi:DI Z X tg iter wi)(hg:FC Z X md tg g)(hb:oK Z X md rn body tb)
  (hs:∀x,foldedSetIterable iter X.env x=pure x:=by intro _;rfl):DSt Z X md rn (.For tg iter body [] pos) (Oh md false wi g tb):=by
 refine(Fg hp hc hi hg hb hs).imp ?_;intro D σ H aL;rfl';obtain⟨B,ρ,E,⟨G,fp,S⟩,h,M⟩:=aL;ac_rfl;exact⟨G,_,_,S.ex.sub,S.mW,h,λds hd J G1 H1 x1 it=>yy (S.grow x1) it hd M⟩
def Mf(Z:DC)(wi:iM):TI:=λσ H R=>∃(G:Hp)(ρ:DN)(P:List D->Prop),aM G H/\dN Z G σ ρ/\wi ρ P/\∀ds,P ds->∀J G' H',Ext G H G' H'->(∀G2,tI Z G2 J ds)->R J H'
def OZ(Z:DC)(X:Cx)(tg e:Expr)(wi:iM):Prop:=PI X tg e (Mf Z wi)
theorem vx(hc:X.calm=true)(hp:PassesOwn (model X.prog X.w) X.A X.env X.xe)(hi:OZ Z X tg iter wi)(hg:FC Z X md tg g)(hb:oK Z X md rn body tb)
  (hs:∀x,foldedSetIterable iter X.env x=pure x:=by intro _;rfl):DSt Z X md rn (.For tg iter body [] pos) (Oh md true wi g tb):=by
 refine(Fg hp hc hi hg hb hs).imp ?_;intro D σ H aL;rfl';obtain⟨B,ρ,E,⟨G,fp,S⟩,h,M⟩:=aL;ac_rfl;exact⟨H,ρ,_, .refl _,S.A8,h,λds hd J G1 H1 x1 it=>yy (S.grow (Ext.all S.ex.sub x1)) (it _) hd M⟩
variable {a b e:Expr} {ta te:aY} {t:gq}
theorem vv{p:Pos}(hg:Gl X "range")(hm:X.mg "range"=none)(ha:DA Z X [a] t)(hs:starEach [a] X.env= [(false,eval a X.env)]:=by rfl):OZ Z X tg (.Call (.Name "range" p) [a] [] pos) (Ov t):=by
 refine(wz hg hm ha hs).imp ?_;intro σ H Q aL;rfl';obtain⟨G,ρ,P,s,en,h,q⟩:=aL;ac_rfl;refine⟨G,ρ,_,s,en,h,λds hd vs G1 H1 x1 dv=>?_⟩
 split at hd
 ·obtain⟨_,rfl,a⟩:=dv.ofOne
  exact⟨_,by rw[a.ofInt],hd.1.1,hd.1.2,q _ hd.2 _ G1 H1 x1 λ_=>sT 0 _⟩
 ·exact hd.elim
theorem CP{p:Pos}(hg:Gl X "range")(hm:X.mg "range"=none)(ha:DA Z X [a,b] t)(hs:starEach [a,b] X.env= [(false,eval a X.env),(false,eval b X.env)]:=by rfl)(gT:starEach [b] X.env= [(false,eval b X.env)]:=by rfl):OZ Z X tg (.Call (.Name "range" p) [a,b] [] pos) (Va t):=by
 refine(D6 hg hm ha hs gT).imp ?_;rintro σ H Q ⟨G,ρ,P,s,en,h,q⟩;refine⟨G,ρ,_,s,en,h,λds hd vs G1 H1 x1 dv=>?_⟩
 split at hd
 ·obtain⟨u1,u2,rfl,da,db⟩:=dv.Af
  exact⟨_,_,by rw[da.ofInt,db.ofInt],hd.1,q _ hd.2 _ G1 H1 x1 λ_=>sT _ _⟩
 ·exact hd.elim
def EM(c:dJ)(tb:cx):cx:=λE ρ=>∃W:Nat->DN->Prop,(∃m,W m ρ)/\∀m ρ,W m ρ->c ρ λb=>if b=true then tb {nx:=λaD=>∃m',m'<m/\W m' aD,ct:=λaD=>∃m',m'<m/\W m' aD,bk:=E.nx,rt:=E.rt,xc:=E.xc} ρ else E.nx ρ
theorem oq{c:Expr}{tc:dJ}(hp:PassesOwn (model X.prog X.w) X.A X.env X.xe)(hc:DT Z X c tc)(hb:oK Z X md rn body tb):DSt Z X md rn (.While c body [] pos) (EM tc tb):=by
 refine(GY hp hc hb).imp ?_;intro D σ H aL;rfl';obtain⟨B,ρ,E,S,⟨W,⟨m0,w0⟩,turn⟩,M⟩:=aL;ac_rfl;refine⟨λm σ H=>∃ρ,SI Z B md ρ σ H/\W m ρ,⟨m0,ρ,S,w0⟩,?_⟩;intro m fF H2 aL;rfl';obtain⟨fm,⟨G2,Bd,S2⟩,w2⟩:=aL;ac_rfl;refine S2.Vj (turn m fm w2) λb hb H' S'=>?_;cases b with
 |false=>exact bH (M.nx _ (hb) _ _ ⟨G2,Bd,S'⟩)
 |true=>
  refine b9 ⟨λaC H'=>∃aD m',m'<m/\SI Z B md aD aC H'/\W m' aD,λaC H' ⟨aD,m',h1,h2,h3⟩=>⟨m',h1,aD,h2,h3⟩,B,fm,_,⟨G2,Bd,S'⟩,(hb),?_⟩;exact⟨λaD ⟨m',h1,h2⟩ aC H' s'=>⟨aD,m',h1,s',h2⟩,M.rt,M.nx,λaD ⟨m',h1,h2⟩ aC H' s'=>⟨aD,m',h1,s',h2⟩,M.xc⟩
abbrev gu:=DN->(List D->Prop)->Prop
def z9(Z:DC)(n:Nat)(t:gu):TE:=λσ H Q=>∃(G:Hp)(ρ:DN)(P:List D->Prop),aM G H/\dN Z G σ ρ/\t ρ P/\∀ds,P ds->∀v f G' H',Ext G H G' H'->Own Z G' H' n v (.lst ds) f->f.Nodup->(∀b∈f,H b=none/\H' b≠none/\G' b=none)->Q v H'
def DF(Z:DC)(X:Cx)(n:Nat)(e:Expr)(t:gu):Prop:=PE X e (z9 Z n t)
theorem Ext.side{p:Addr}{o:HO}{G1 H1:Hp}(x:Ext G H G1 H1)(hp:H1 p=none):Ext G H G1 (upd H1 p o):=
 ⟨x.gg,λb u e=>by rw[aw (aU e (x.sub.free hp))];exact x.sub _ _ e,x.hh.trans (aV hp _),x.off⟩
theorem rb{p:Addr}{xs:List V}{ds:List D}{G1 H1:Hp}(x:Ext G H G1 H1)(hp:H1 p=none)(dv:DvAll Z G1 xs ds):
  Own Z G1 (upd H1 p (.lst xs)) 1 (.ref p) (.lst ds) [p]/\([p]:List Addr).Nodup/\∀b∈([p]:List Addr),H b=none/\(upd H1 p (.lst xs)) b≠none/\G1 b=none:=by
 refine⟨.inl ⟨p,xs,ds,[],rfl,rfl,au,rfl,dv.own⟩,by simp,λb hb=>?_⟩
 have:b=p:=by simpa using hb
 subst this;exact⟨x.hh.free hp,(au▸λz=>nomatch z),x.sub.free hp⟩
def OC(t:gq):gu:=λρ P=>t ρ λds=>ds.length<=sizeLine/\P ds
theorem eo{es:List Expr}(h:DA Z X es t):DF Z X 1 (.List es pos) (OC t):=by
 refine(lJ h).imp ?_;intro σ H Q aL;rfl';obtain⟨G,ρ,P,s,e,h,q⟩:=aL;ac_rfl;refine⟨G,ρ,_,s,e,h,?_⟩;rintro ds ⟨hl,hp⟩ vs G1 H1 x1 bu;refine⟨by rw[bu.length];exact hl,λp gJ=>?_⟩
 obtain⟨o1,o2,o3⟩:=rb x1 gJ bu;exact q _ hp _ _ _ _ (x1.side gJ) o1 o2 o3
def Qk(wi:iM)(g:fi)(tt:dJ)(te:aY)(src:List (Option Nat)):gu:=λρ P=>wi ρ λds=>lcW g tt te ds (zf src ρ) [] λ_ out=>P out
theorem Bx{src:List (Option Nat)}{tt:dJ}:∀σ H Q,z9 Z 1 (Qk wi g tt te src) σ H Q->Nj (vS Z wi) (sY Z g) (liftT Z tt) (eG Z te) src σ H Q:=by
 intro σ H Q aL;rfl';obtain⟨G,ρ,P,s,en,h,q⟩:=aL;ac_rfl;refine⟨G,ρ,_,s,en,h,λds hd J G1 H1 x1 it Ad hA=>?_⟩;refine⟨λi m fF H2=>m=ds.length-i/\i<=ds.length/\∃fm acc,CS Z G1 H1 Ad fm acc fF H2/\lcW g tt te (ds.drop i) fm acc λ_ out=>P out,⟨_,rfl,cI _,_,[], .begin x1.sub hA ((en.mono x1.gg).src src),hd⟩,?_⟩;rintro i m fF H2 ⟨rfl,hi,fm,acc,c,hl⟩
 by_cases dZ:i<ds.length
 ·obtain⟨go,turn⟩:=yG hA G1 it i fm acc fF H2 c (λ_ s=>s) dZ hl
  exact .inr ⟨go,_,λaC H' n=>⟨ds.length-(i+1),by omega,rfl,dZ,n⟩,turn⟩
 ·have e:ds.drop i= []:=Cp (by omega)
  rfl';rw[e] at hl;obtain⟨G2,ys,s1,s2,s3,off,gA,uo,bu,en⟩:=c;ac_rfl;refine .inl ⟨(it G2 H2 s1 s2 i).2.1 (by omega),q _ hl (.ref Ad) [Ad] G2 H2 ⟨x1.gg.trans s1,s2,x1.hh.trans s3,λb hb hg=>off b (eH x1.hh hb) (x1.off b hb hg)⟩ (.inl ⟨Ad,ys,acc,[],rfl,rfl,uo,rfl,bu.own⟩) (by simp) λb hb=>?_⟩
  have:b=Ad:=by simpa using hb
  subst this;exact⟨x1.hh.free hA,(by rw[uo];exact λz=>nomatch z),gA⟩
variable {elt:Expr} {ifs:List Expr} {scope:Scope} {NC:List Str} {src:List (Option Nat)} {tt:dJ}
def Ot(md:List Nat)(i:Nat)(t:gu):cx:=λE ρ=>t (cA md ρ) λds=>E.nx (ρ.set i (some (.lst ds)))
theorem yN{n i:Nat}{t:gu}{D':Ends}{E:fJ}(hm:md.getD i 0=n)(S:SIx Z B md ρ σ H G fp)(h:t (cA md ρ) λds=>E.nx (ρ.set i (some (.lst ds))))(M:Meets Z X B md rn E D'):z9 Z n t σ H λv H'=>D'.nx (σ.set i (some v)) H':=by
 refine⟨G,_,_,S.ex.sub,S.mW,h,λds hd v f G' H' x o nd nw=>?_⟩;refine M.nx _ hd _ _ ⟨G',_,(S.grow x).Fp hm o nd (λb hb=>⟨S.ex.hh.free (nw b hb).1,(nw b hb).2⟩) λb hb j _ hj=>(S.nw j b hj).2.1 (nw b hb).1⟩
theorem hJ(i:Nat){n:Nat}{x:Str}{pos':Pos}{t:gu}(hN:X.N.Nodup)(he:DF Z X n e t)(hm:md.getD i 0=n:=by rfl)(hi:X.N[i]? =some x:=by rfl)(hx:Loc X.env.scope x:=by first|exact Or.inl rfl|exact Or.inr rfl)(hs:swapsWith e (some (.Name x pos')) pos.line X.env=pure false:=by rfl)
  (hf:X.fn x=true\/X.env.scope.names.lookup x=some .local:=by first|exact .inl rfl|exact .inr rfl|assumption):DSt Z X md rn (.Assign [.Name x pos'] e pos) (Ot md i t):=by
 refine(jM hN hi hx he hs hf).imp ?_;intro D σ H aL;rfl';obtain⟨B,ρ,E,⟨G,fp,S⟩,h,M⟩:=aL;ac_rfl;exact yN hm S h M
theorem sE(i:Nat){x:Str}{px t9:Pos}(hc:X.calm=true)(hN:X.N.Nodup)(c:cE X scope)(fH:dR scope X.N src NC)(hi:DI Z X tg iter wi)
  (hg:∀ex s H,DG Z (dA X scope NC ex s H) tg g) (ht:∀ex s H,AB Z (dA X scope NC ex s H) ifs tt) (he:∀ex s H,DE Z (dA X scope NC ex s H) elt te)
  (j6:swapsWith (.ListComp elt [⟨tg,iter,ifs,0⟩] scope pos) (some (.Name x px)) t9.line X.env=pure true:=by rfl) (hm:md.getD i 0=1:=by rfl) (iP:X.N[i]? =some x:=by rfl) (hx:Loc X.env.scope x:=by first|exact Or.inl rfl|exact Or.inr rfl)
  (hf:X.fn x=true\/X.env.scope.names.lookup x=some .local:=by first|exact .inl rfl|exact .inr rfl|assumption)
  (hs:∀x,foldedSetIterable iter X.env x=pure x:=by intro _;rfl):DSt Z X md rn (.Assign [.Name x px] (.ListComp elt [⟨tg,iter,ifs,0⟩] scope pos) t9) (Ot md i (Qk wi g tt te src)):=by
 refine(yY hc hN iP hx c fH hi hg ht he j6 hf hs).imp ?_;intro D σ H aL;rfl';obtain⟨B,ρ,E,⟨G,fp,S⟩,h,M⟩:=aL;ac_rfl;exact Bx σ H _ (yN hm S h M)
end
section
variable {Z:DC} {X:Cx} {B:Bs} {md:List Nat} {rn:Nat} {ρ:DN} {σ:St} {H G:Hp} {fp:Nat->List Addr} {a e k o:Expr} {ta te tk tp:aY} {pos apos aS p2:Pos}
theorem SIx.mut{i:Nat}{v:V}{d':D}{b:Addr}{c:HO}(S:SIx Z B md ρ σ H G fp)(hi:σ[i]? =some (some v))(hb:b∈fp i)(o:Own Z G (upd H b c) (md.getD i 0) v d' (fp i)):SIx Z B md (ρ.set i (some d')) σ (upd H b c) G fp where
 ex:=by
  obtain⟨h1,h2,h3⟩:=S.nw i b hb;exact⟨S.ex.gg,λx u e=>by rw[aw (aU e h3)];exact S.ex.sub _ _ e,λx u e=>by rw[aw (aU e h1)];exact S.ex.hh _ _ e,S.ex.off⟩
 fl:=S.fl
 len:=by rw[cM];exact S.len
 at_:=λj w h=>by
  by_cases z:i=j
  ·subst z
   by_cases hl:i<ρ.length
   ·rw[gF hl] at h
    cases Option.some.inj h;exact⟨v,hi,o⟩
   ·rw[xb (gH hl),eQ (gH hl)] at h;cases h
  ·rw[gG z] at h
   obtain⟨u,hu,ow⟩:=S.at_ j w h;exact⟨u,hu,ow.keep (.refl _) λx hx=>aw λq=>S.ap i j b z hb (q▸hx)⟩
 nd:=S.nd
 ap:=S.ap
 nw:=λj x hx=>by
  obtain⟨h1,h2,h3⟩:=S.nw j x hx;refine⟨h1,?_,h3⟩
  by_cases z:x=b
  ·rw[z,au];exact λq=>nomatch q
  ·rw[aw z];exact h2
theorem SIx.one{i:Nat}{d:D}(S:SIx Z B md ρ σ H G fp)(hm:md.getD i 0=1)(h:ρ[i]? =some (some d)):∃l xs ds,d= .lst ds/\σ[i]? =some (some (.ref l))/\H l=some (.lst xs)/\DvAll Z G xs ds/\
  ∀g7 fM,DvAll Z G g7 fM->SIx Z B md (ρ.set i (some (.lst fM))) σ (upd H l (.lst g7)) G fp:=by
 rfl';obtain⟨v,hv,o⟩:=S.at_ i d h;rw[hm] at o;obtain⟨l,xs,ds,cC,rfl,rfl,hl,hf,ol⟩:=o.one;obtain⟨dv,rfl⟩:=ol.flat;ac_rfl;refine⟨l,xs,ds,rfl,hv,hl,dv,λg7 fM lD=>S.mut hv (by rw[hf];simp) ?_⟩
 rw[hm,hf];exact .inl ⟨l,g7,fM,[],rfl,rfl,au,rfl,lD.own⟩
theorem bT.xw:∀{ys:List V}{jC:List D}{cC:List Addr}(p:Nat){dp:D},bT (Own Z G H 1) ys jC cC->cC.Nodup->jC[p]? =some dp->∃l xs ds,dp= .lst ds/\ys[p]? =some (.ref l)/\H l=some (.lst xs)/\DvAll Z G xs ds/\l∈cC/\
  ∀g7 fM,DvAll Z G g7 fM->bT (Own Z G (upd H l (.lst g7)) 1) ys (jC.set p (.lst fM)) cC
 |_,_,_,_,_, .nil,_,h=>by simp at h
 |_,_,_,0,dp, .cons (f:=f) (fs:=fs) a as,nd,h=>by
  simp at h;subst h;rfl';obtain⟨l,xs,ds,cC,rfl,rfl,hl,hf,ol⟩:=a.one;obtain⟨dv,rfl⟩:=ol.flat;subst hf;ac_rfl;refine⟨l,xs,ds,rfl,rfl,hl,dv,by simp,λg7 fM lD=> .cons (.inl ⟨l,g7,fM,[],rfl,rfl,au,rfl,lD.own⟩) (as.imp λv d f hf r=>r.keep (.refl _) λb hb=>aw λz=>?_)⟩
  have:=(eI.mp nd).1
  exact this (z▸hf _ hb)
 |_,_,_,p+1,dp, .cons (f:=f) (fs:=fs) a as,nd,h=>by
  rfl';obtain⟨DR,nh,Ml⟩:=gN.mp nd;obtain⟨l,xs,ds,e1,e2,e3,e4,e5,e6⟩:=bT.xw p (dp:=dp) as nh (by simpa using h)
  ac_rfl;refine⟨l,xs,ds,e1,by simpa using e2,e3,e4,dQ _ e5,λg7 fM lD=>?_⟩
  refine .cons (a.keep (.refl _) λb hb=>aw λz=>?_) (e6 g7 fM lD);exact Ml b hb l e5 z
theorem SIx.two{i p:Nat}{jC:List D}{dp:D}(S:SIx Z B md ρ σ H G fp)(hm:md.getD i 0=2)(h:ρ[i]? =some (some (.lst jC)))(hp:jC[p]? =some dp):∃T ys l xs ds,dp= .lst ds/\σ[i]? =some (some (.ref T))/\H T=some (.lst ys)/\ys.length=jC.length/\ys[p]? =some (.ref l)/\H l=some (.lst xs)/\DvAll Z G xs ds/\
  ∀g7 fM,DvAll Z G g7 fM->SIx Z B md (ρ.set i (some (.lst (jC.set p (.lst fM))))) σ (upd H l (.lst g7)) G fp:=by
 rfl';obtain⟨v,hv,o⟩:=S.at_ i _ h;rw[hm] at o;obtain⟨T,ys,Vb,cC,rfl,e0,hT,hf,ol⟩:=o.lst;cases e0;have nd:=S.nd i;rw[hf] at nd;obtain⟨nT,nh⟩:=eI.mp nd;obtain⟨l,xs,ds,e1,e2,e3,e4,e5,e6⟩:=bT.xw p ol nh hp;ac_rfl;refine⟨T,ys,l,xs,ds,e1,hv,hT,ol.length,e2,e3,e4,λg7 fM lD=>S.mut hv (by rw[hf];exact b8 _ e5) ?_⟩
 rw[hm,hf];exact .inl ⟨T,ys,_,cC,rfl,rfl,by rw[aw (λz=>nT (by rw[z];exact e5))];exact hT,rfl,e6 g7 fM lD⟩
theorem ty_list{K:PySem.W.Frag}{l:Addr}{xs:List V}(h:H l=some (.lst xs)):Nq K "list" (.ref l) H:= .inl ⟨rfl,_,bX.of h⟩
def Uj(md:List Nat)(m:Bool)(i:Nat)(te:aY):cx:=λE ρ=>∃ds,ρ[i]? =some (some (.lst ds))/\te (Cj md m ρ) λd=>oF m d/\ds.length<sizeLine/\E.nx (ρ.set i (some (.lst (ds++ [d]))))
theorem qB(m:Bool)(i:Nat){x:Str}{px:Pos}(he:DE Z X e te)(hm:md.getD i 0=1:=by rfl)(hi:X.N[i]? =some x:=by rfl)(hv:j5 X.env.scope x:=by first|exact Or.inl rfl|exact Or.inr (Or.inl rfl) |exact Or.inr (Or.inr rfl))(hd:(x==("__debug__":Str))=false:=by decide)(dh:(x==("__classdict__":Str))=false:=by decide)
  (eV:attributeBase (.Name x px) "append" X.env (eval (.Name x px) X.env)=eval (.Name x px) X.env:=by rfl)
  (jg:((backTo aS (starEach [e] X.env)).all (λx=>!x.1)&&(backToKw aS (keywordEach [] X.env)).all (λx=>x.1.isSome)&&decide (([e]:List Expr).length+([]:List Keyword).length+(if ([]:List Keyword).isEmpty then 0 else 1)<30))=true:=by rfl)
  (dS:(apos.endLine==aS.line)=true:=by rfl) (hs:starEach [e] X.env=(false,eval e X.env)::starEach [] X.env:=by rfl) (eW:(backTo aS (starEach [] X.env)).any (·.1)=false:=by rfl)
  (j6:swapsWith (.Call (.Attribute (.Name x px) "append" apos) [e] [] aS) none pos.line X.env=pure false:=by rfl):
  DSt Z X md rn (.Expr (.Call (.Attribute (.Name x px) "append" apos) [e] [] aS) pos) (Uj md m i te):=by
 refine(jr (qc PySem.F.plainAttrs_list PySem.F.slot_list_append PySem.F.type_list_append jn (pv i hi hv hd dh) (bV he dO hs) eV jg dS hs eW) j6).imp ?_;intro D σ H aL;rfl';obtain⟨B,ρ,E,⟨G,fp,S⟩,⟨ds,h1,h⟩,M⟩:=aL;ac_rfl;rfl';obtain⟨l,xs,_,_,e2,e3,_⟩:=S.one hm h1;ac_rfl;refine⟨_,e2,ty_list e3,S.ev m h λd hd=>⟨hd.1,λv G' H' S' x dv=>?_⟩⟩;rfl';obtain⟨_,h2,h3⟩:=hd;obtain⟨l',g7,fM,e1,ig,zJ,bu,put⟩:=S'.one hm h1;cases e1;ac_rfl;rw[e2] at ig;cases ig;exact⟨l,g7,v,rfl,rfl,zJ,by rw[bu.length];exact h2,M.nx _ h3 _ _ ⟨G',fp,put _ _ (bu.snoc dv)⟩⟩
theorem DvAll.ins{vs:List V}{ds:List D}{v:V}{d:D}(n:Nat)(h:DvAll Z G vs ds)(dv:Dv Z G v d):DvAll Z G (Wb.ins vs n v) (Wb.ins ds n d):=(h.take n).append (.cons dv (h.drop n))
def Um(md:List Nat)(m:Bool)(i:Nat)(tk te:aY):cx:=λE ρ=>∃ds,ρ[i]? =some (some (.lst ds))/\tk ρ λkk=>∃k,kk= .int k/\te (Cj md m ρ) λd=>oF m d/\(0<=k/\k<=ds.length/\ds.length<sizeLine)/\E.nx (ρ.set i (some (.lst (Wb.ins ds k.toNat d))))
theorem LB(m:Bool)(i:Nat){x:Str}{px:Pos}(hk:DE Z X k tk)(he:DE Z X e te)(hm:md.getD i 0=1:=by rfl)(hi:X.N[i]? =some x:=by rfl)(hv:j5 X.env.scope x:=by first|exact Or.inl rfl|exact Or.inr (Or.inl rfl) |exact Or.inr (Or.inr rfl))(hd:(x==("__debug__":Str))=false:=by decide)(dh:(x==("__classdict__":Str))=false:=by decide)
  (eV:attributeBase (.Name x px) "insert" X.env (eval (.Name x px) X.env)=eval (.Name x px) X.env:=by rfl)
  (jg:((backTo aS (starEach [k,e] X.env)).all (λx=>!x.1)&&(backToKw aS (keywordEach [] X.env)).all (λx=>x.1.isSome)&&decide (([k,e]:List Expr).length+([]:List Keyword).length+(if ([]:List Keyword).isEmpty then 0 else 1)<30))=true:=by rfl)
  (dS:(apos.endLine==aS.line)=true:=by rfl) (hs:starEach [k,e] X.env=(false,eval k X.env)::starEach [e] X.env:=by rfl) (gT:starEach [e] X.env=(false,eval e X.env)::starEach [] X.env:=by rfl) (eW:(backTo aS (starEach [e] X.env)).any (·.1)=false:=by rfl)
  (j6:swapsWith (.Call (.Attribute (.Name x px) "insert" apos) [k,e] [] aS) none pos.line X.env=pure false:=by rfl):
  DSt Z X md rn (.Expr (.Call (.Attribute (.Name x px) "insert" apos) [k,e] [] aS) pos) (Um md m i tk te):=by
 refine(jr (qc PySem.F.plainAttrs_list PySem.F.slot_list_insert PySem.F.type_list_insert DQ (pv i hi hv hd dh) (bV hk (bV he dO gT) hs) eV jg dS hs eW) j6).imp ?_;intro D σ H aL;rfl';obtain⟨B,ρ,E,⟨G,fp,S⟩,⟨ds,h1,h⟩,M⟩:=aL;ac_rfl;rfl';obtain⟨l,xs,_,_,e2,e3,_⟩:=S.one hm h1;ac_rfl;refine⟨_,e2,ty_list e3,S.ev true h ?_⟩;rintro _ ⟨k,rfl,h⟩;refine⟨rfl,λv1 G1 H1 S1 x1 sH=>S1.ev m h λd hd=>⟨hd.1,λv G' H' S' x dv=>?_⟩⟩;rfl';cases sH.ofInt;obtain⟨_,⟨h2,Qs,Vv⟩,h3⟩:=hd;obtain⟨l',g7,fM,e1,ig,zJ,bu,put⟩:=S'.one hm h1;cases e1;ac_rfl;rw[e2] at ig;cases ig;exact⟨l,g7,k,v,rfl,rfl,zJ,h2,by rw[bu.length];exact Qs,by rw[bu.length];exact Vv,M.nx _ h3 _ _ ⟨G',fp,put _ _ (bu.ins _ dv)⟩⟩
theorem Lg{α:Type}{xs:List α}{i:Int}{j n:Nat}{v:α}(hn:xs.length=n)(h:jD n i=some j)(e:xs[j]? =some v):gv xs i=some v:=by unfold gv;rw[hn,h];exact e
def Ls(md:List Nat)(m:Bool)(i:Nat)(tk te:aY):cx:=λE ρ=>te (Cj md m ρ) λd=>oF m d/\∃ds,ρ[i]? =some (some (.lst ds))/\tk ρ λkk=>∃k j,kk= .int k/\jD ds.length k=some j/\E.nx (ρ.set i (some (.lst (ds.set j d))))
theorem sF(m:Bool)(i:Nat){x:Str}{px ps:Pos}(hk:DE Z X k tk)(he:DE Z X e te)(hm:md.getD i 0=1:=by rfl)(hi:X.N[i]? =some x:=by rfl)(hv:j5 X.env.scope x:=by first|exact Or.inl rfl|exact Or.inr (Or.inl rfl) |exact Or.inr (Or.inr rfl))(hd:(x==("__debug__":Str))=false:=by decide)(dh:(x==("__classdict__":Str))=false:=by decide)
  (ha:∀v,assign (.Subscript (.Name x px) k ps) X.env v=(do
   let ov <-holding [v] (eval (.Name x px) X.env)
   let iv <-holding [v,ov] (eval k X.env)
   standAt ps
   holding [v,ov,iv] (setItem ov iv v)
   release [v,ov,iv] []):=by intro _;rfl)
  (hs:swapsWithSole [.Subscript (.Name x px) k ps] e pos.line X.env=pure false:=by rfl) (hw:swappedStores [.Subscript (.Name x px) k ps] e X.env=pure none:=by rfl)
  (h1:(assignEach [.Subscript (.Name x px) k ps] X.env).map (·.2)= [assign (.Subscript (.Name x px) k ps) X.env]:=by rfl):DSt Z X md rn (.Assign [.Subscript (.Name x px) k ps] e pos) (Ls md m i tk te):=by
 refine(oJ he (rz (pv i hi hv hd dh) hk set_list ha) hs hw h1).imp ?_;intro D σ H aL;rfl';obtain⟨B,ρ,E,⟨G,fp,S⟩,h,M⟩:=aL;ac_rfl;refine S.ev m h λd hd=>⟨hd.1,λv G' H' S' x dv=>?_⟩;rfl';obtain⟨_,ds,h1,h⟩:=hd;obtain⟨l,xs,_,_,e2,e3,_⟩:=S'.one hm h1;ac_rfl;refine⟨_,e2,S'.ev true h ?_⟩;rintro _ ⟨k,j,rfl,hj,h3⟩;refine⟨rfl,λv1 G1 H1 S1 x1 sH=>?_⟩;rfl';cases sH.ofInt;obtain⟨l',g7,fM,e1,ig,zJ,bu,put⟩:=S1.one hm h1;cases e1;ac_rfl;rw[e2] at ig;cases ig;exact⟨l,g7,k,j,rfl,rfl,zJ,by rw[bu.length];exact hj,M.nx _ h3 _ _ ⟨G1,fp,put _ _ (bu.set (dv.mono x1.gg) j)⟩⟩
def Us(md:List Nat)(i j:Nat):cx:=λE ρ=>∃ds d,ρ[j]? =some (some (.lst (ds++ [d])))/\E.nx ((ρ.set j (some (.lst ds))).set i (some d))
theorem LC(i j:Nat){x y:Str}{px py:Pos}(hN:X.N.Nodup)(hm:md.getD i 0=0:=by rfl)(QO:md.getD j 0=1:=by rfl)(hi:X.N[i]? =some x:=by rfl)(hx:Loc X.env.scope x:=by first|exact Or.inl rfl|exact Or.inr rfl)
  (hj:X.N[j]? =some y:=by rfl) (hv:j5 X.env.scope y:=by first|exact Or.inl rfl|exact Or.inr (Or.inl rfl) |exact Or.inr (Or.inr rfl)) (hd:(y==("__debug__":Str))=false:=by decide) (dh:(y==("__classdict__":Str))=false:=by decide)
  (eV:attributeBase (.Name y py) "pop" X.env (eval (.Name y py) X.env)=eval (.Name y py) X.env:=by rfl) (dS:(apos.endLine==aS.line)=true:=by rfl)
  (hs:swapsWith (.Call (.Attribute (.Name y py) "pop" apos) [] [] aS) (some (.Name x px)) pos.line X.env=pure false:=by rfl)
  (hf:X.fn x=true\/X.env.scope.names.lookup x=some .local:=by first|exact .inl rfl|exact .inr rfl|assumption):DSt Z X md rn (.Assign [.Name x px] (.Call (.Attribute (.Name y py) "pop" apos) [] [] aS) pos) (Us md i j):=by
 refine(jM hN hi hx (ME PySem.F.plainAttrs_list PySem.F.slot_list_pop PySem.F.type_list_pop Mj (pv j hj hv hd dh) eV dS) hs hf).imp ?_;intro D σ H aL;rfl';obtain⟨B,ρ,E,⟨G,fp,S⟩,⟨ds,d,h1,h⟩,M⟩:=aL;ac_rfl;rfl';obtain⟨l,xs,fM,e1,e2,e3,bu,put⟩:=S.one QO h1;cases e1;have hl:xs.length=ds.length+1:=by rw[bu.length];simp
 obtain⟨v,vH,dv⟩:=bu.get (i:=xs.length-1) (d:=d) (by rw[hl];simp)
 ac_rfl;refine⟨_,e2,ty_list e3,l,xs,v,rfl,rfl,e3,vH,M.nx _ h _ _ ⟨G,_,(put xs.dropLast ds ?_).ph hm dv⟩⟩
 have:=bu.take ds.length
 rw[List.take_left'] at this
 ·rw[List.dropLast_eq_take,hl];exact this
 ·rfl
theorem SIx.An{j:Nat}{d:D}(S:SIx Z B md ρ σ H G fp)(h:ρ[j]? =some (some d)):∃v,σ[j]? =some (some v)/\Dv Z (plus G H λb=>b∈fp j) v d/\SIx Z B md (ρ.set j none) σ H (plus G H λb=>b∈fp j) (λk=>if k=j then[] else fp k):=by
 have s:=S.ex.sub;obtain⟨v,hv,o⟩:=S.at_ j d h;refine⟨v,hv,o.dv (fg s) λb hb u e=>by rw[kL hb];exact e,?_⟩
 refine⟨⟨S.ex.gg.trans (fg s),i6 s,S.ex.hh,λb hb hg=>?_⟩,S.fl.trans (fg s),by rw[cM];exact S.len,λk c hk=>?_,λk=>by split;exact iL;exact S.nd k,λk k' b ne hk gS=>?_,λk b hb=>?_⟩
 ·rw[gW (λz=>hb (S.nw j b z).1)];exact S.ex.off b hb hg
 ·by_cases z:j=k
  ·subst z
   by_cases hl:j<ρ.length
   ·rw[gF hl] at hk;cases hk
   ·rw[xb (gH hl),eQ (gH hl)] at hk;cases hk
  ·rw[gG z] at hk
   obtain⟨u,hu,ow⟩:=S.at_ k c hk;exact⟨u,hu,by rw[if_neg (Ne.symm z)];exact ow.keep (fg s) λ_ _=>rfl⟩
 ·split at hk
  ·cases hk
  ·split at gS
   ·cases gS
   ·exact S.ap k k' b ne hk gS
 ·split at hb
  ·cases hb
  ·next z=>
   obtain⟨h1,h2,h3⟩:=S.nw k b hb;exact⟨h1,h2,by rw[gW (λw=>S.ap k j b z hb w)];exact h3⟩
def PV(md:List Nat)(i j:Nat):cx:=λE ρ=>∃ds d,ρ[i]? =some (some (.lst ds))/\ρ[j]? =some (some d)/\ds.length<sizeLine/\E.nx ((ρ.set j none).set i (some (.lst (ds++ [d]))))
theorem Il(i j:Nat){x y:Str}{px py:Pos}(ij:i≠j:=by decide)(hm:md.getD i 0=1:=by rfl)(hj:X.N[j]? =some y:=by rfl)(hvj:j5 X.env.scope y:=by first|exact Or.inl rfl|exact Or.inr (Or.inl rfl) |exact Or.inr (Or.inr rfl))(hdj:(y==("__debug__":Str))=false:=by decide)(VG:(y==("__classdict__":Str))=false:=by decide)(hi:X.N[i]? =some x:=by rfl)(hv:j5 X.env.scope x:=by first|exact Or.inl rfl|exact Or.inr (Or.inl rfl) |exact Or.inr (Or.inr rfl))(hd:(x==("__debug__":Str))=false:=by decide)(dh:(x==("__classdict__":Str))=false:=by decide)
  (eV:attributeBase (.Name x px) "append" X.env (eval (.Name x px) X.env)=eval (.Name x px) X.env:=by rfl)
  (jg:((backTo aS (starEach [.Name y py] X.env)).all (λx=>!x.1)&&(backToKw aS (keywordEach [] X.env)).all (λx=>x.1.isSome)&&decide (([.Name y py]:List Expr).length+([]:List Keyword).length+(if ([]:List Keyword).isEmpty then 0 else 1)<30))=true:=by rfl)
  (dS:(apos.endLine==aS.line)=true:=by rfl) (hs:starEach [.Name y py] X.env=(false,eval (.Name y py) X.env)::starEach [] X.env:=by rfl) (eW:(backTo aS (starEach [] X.env)).any (·.1)=false:=by rfl)
  (j6:swapsWith (.Call (.Attribute (.Name x px) "append" apos) [.Name y py] [] aS) none pos.line X.env=pure false:=by rfl):
  DSt Z X md rn (.Expr (.Call (.Attribute (.Name x px) "append" apos) [.Name y py] [] aS) pos) (PV md i j):=by
 refine(jr (qc PySem.F.plainAttrs_list PySem.F.slot_list_append PySem.F.type_list_append jn (pv i hi hv hd dh) (bV (pv j hj hvj hdj VG) dO hs) eV jg dS hs eW) j6).imp ?_;intro D σ H aL;rfl';obtain⟨B,ρ,E,⟨G,fp,S⟩,⟨ds,d,h1,h2,hz,h⟩,M⟩:=aL;ac_rfl;rfl';obtain⟨v,vH,dv,S'⟩:=S.An h2;have F8:(ρ.set j none)[i]? =some (some (.lst ds)):=by rw[gG (Ne.symm ij)];exact h1
 obtain⟨l,xs,fM,e1,e2,e3,bu,put⟩:=S'.one hm F8;cases e1;ac_rfl;exact⟨_,e2,ty_list e3,_,vH,l,xs,v,rfl,rfl,e3,by rw[bu.length];exact hz,M.nx _ h _ _ ⟨_,_,put _ _ (bu.snoc dv)⟩⟩
end
structure Sa (mg:Str->Option Value):Prop where
 len:mg "len"=none
 range:mg "range"=none
 max:mg "max"=none
 min:mg "min"=none
 enumerate:mg "enumerate"=none
 zip:mg "zip"=none
 sorted:mg "sorted"=none
 all:mg "all"=none
 isinstance:mg "isinstance"=none
 int:mg "int"=none
 bool:mg "bool"=none
 list:mg "list"=none
 tuple:mg "tuple"=none
 sum:mg "sum"=none
 reversed:mg "reversed"=none
theorem EI:bootBuiltins "max"=some (.builtin "max"):=by decide+kernel
theorem Li:bootBuiltins "min"=some (.builtin "min"):=by decide+kernel
theorem AL:bootBuiltins "bool"=some (.type "bool"):=by decide+kernel
theorem EH:bootBuiltins "int"=some (.type "int"):=by decide+kernel
theorem kB:bootBuiltins "list"=some (.type "list"):=by decide+kernel
theorem sA:bootBuiltins "tuple"=some (.type "tuple"):=by decide+kernel
theorem pH:bootBuiltins "sorted"=some (.builtin "sorted"):=by decide+kernel
theorem aW:bootBuiltins "len"=some (.builtin "len"):=by decide+kernel
section
variable {P:Program} {w:World} {K:PySem.W.Frag} {mg:Str->Option Value} {base:Heap} {Z:DC}
def lQ(N:List Str)(ds:List D):DN:=ds.map some++List.replicate (N.length-ds.length) none
def gz(Z:DC)(n:Nat)(sd:bP):Sp:=λvs H Q _=>∃(G:Hp)(ds:List D)(P:D->Prop),aM G H/\DvAll Z G vs ds/\sd ds P/\∀d,P d->∀v f G' H',Ext G H G' H'->Own Z G' H' n v d f->f.Nodup->(∀b∈f,H b=none/\H' b≠none/\G' b=none)->Q v H'
theorem Own.pure{n:Nat}{v:V}{d:D}{f:List Addr}{G H G' H':Hp}(x:Ext G H G' H')(o:Own Z G' H' n v d f)(nw:∀b∈f,H b=none/\H' b≠none/\G' b=none):∃G2,Ext G H G2 H'/\Dv Z G2 v d:=by
 refine⟨plus G' H' λb=>b∈f,⟨x.gg.trans (fg x.sub),i6 x.sub,x.hh,λb hb hg=>?_⟩,o.dv (fg x.sub) λb hb u e=>by rw[kL hb];exact e⟩
 rw[gW (λz=>hb (nw b z).1)];exact x.off b hb hg
theorem Kx{n:Nat}{sd:bP}:∀vs H Q E,aF Z sd vs H Q E->gz Z n sd vs H Q E:=by
 intro vs H Q E g9;rfl';obtain⟨G,ds,P,s,dv,h,q⟩:=g9;ac_rfl;exact⟨G,ds,P,s,dv,h,λd hd v f G' H' x o nd nw=>let ⟨G2,x2,qC⟩:=o.pure x nw;q d hd v G2 H' x2 qC⟩
theorem kE(rn:Nat){x qual:Str}{st:Stmt}{f:Addr}{fd:FuncData}{N ps:List Str}{k:Nat}{sd:bP}(F:uZ K x qual st f fd)(S:aB N ps (aq st))(md:List Nat)(IW:∀i,i<ps.length->md.getD i 0=0)(len:∀ds P,sd ds P->ds.length=ps.length)
  (lE:∀(bc:Value)(A:Around)(outer:List Env)(s:Shared)(H:Hp)(E:XK)(ds:List D)(R:D->Prop),cn k (A.deeper (envOfC qual (aq st) s.heap.objs.size f bc))->sd ds R->
   ∃t,oK Z (qu bB P w K mg base N qual (aq st) f bc A outer s H E).jE md rn (ft st) t/\t {nx:=λ_=>rn=0/\R .aZ,rt:=R} (lQ N ds)):FnOk P w K mg base bB (k+1) f fd ps (gz Z rn sd):=by
 refine F.ok S (λvs H Q E h=>?_) (λbc A outer s H vs Q E hr h=>?_)
 ·obtain⟨G,ds,R,s,dv,h,q⟩:=h
  rw[dv.length];exact len _ _ h
 rfl';obtain⟨G,ds,R,s0,dv,h,q⟩:=h;have V6:=q;obtain⟨t,ht,hq⟩:=lE bc A outer s H E ds R hr h;have hl:=len _ _ h;ac_rfl;refine⟨_,ht,⟨G,H,G⟩,_,_,⟨G,λ_=> [],?_⟩,hq,⟨λρ Wh aC H' ⟨G',fp,S'⟩=>q _ Wh.2 _ [] G' H' S'.ex (by rw[Wh.1];exact⟨.aZ,rfl⟩) iL (λb hb=>by cases hb),V6,λ_ z=>z.elim,λ_ z=>z.elim,λ_ _ z=>z.elim⟩⟩
 refine⟨.refl s0, .refl _,by unfold lQ start;simp[dv.length],λi d hi=>?_,λ_=>iL,(λ_ _ _ _ z=>by cases z),(λ_ _ z=>by cases z)⟩
 unfold lQ at hi
 have xK:i<ds.length:=by
  apply Classical.byContradiction;intro z;rw[iH (by simpa using gH z),n6] at hi
  split at hi<;>cases hi
 rw[gE (by simpa using xK),cL] at hi
 have jf:ds[i]? =some d:=by
  cases z:ds[i]? with
  |none=>rw[z] at hi;cases hi
  |some d'=>rw[z] at hi;cases hi;rfl
 obtain⟨v,hv,lD⟩:=dv.get jf;refine⟨v,?_,by rw[IW i (by omega)];exact⟨lD,rfl⟩⟩
 unfold start;rw[gE (by simpa [dv.length] using xK),cL,hv];rfl
theorem aP{x qual:Str}{st:Stmt}{f:Addr}{fd:FuncData}{N ps:List Str}{k:Nat}{sd:bP}(F:uZ K x qual st f fd)(S:aB N ps (aq st))(md:List Nat)(IW:∀i,i<ps.length->md.getD i 0=0)(len:∀ds P,sd ds P->ds.length=ps.length)
  (lE:∀(bc:Value)(A:Around)(outer:List Env)(s:Shared)(H:Hp)(E:XK)(ds:List D)(R:D->Prop),cn k (A.deeper (envOfC qual (aq st) s.heap.objs.size f bc))->sd ds R->
   ∃t,oK Z (qu bB P w K mg base N qual (aq st) f bc A outer s H E).jE md 0 (ft st) t/\t {nx:=λ_=>0=0/\R .aZ,rt:=R} (lQ N ds)):FnOk P w K mg base bB (k+1) f fd ps (aF Z sd):=
 (kE 0 F S md IW len λbc A outer s H E ds R hr h=>let ⟨t,a,b⟩:=lE bc A outer s H E ds R hr h;⟨t,a,b⟩).imp Kx
end
section
variable {Z:DC} {X:Cx} {a b c e o:Expr} {ta tb te:aY} {t:gq} {es:List Expr} {pos apos:Pos}
def O7:bP:=λds P=>∃i j,ds= [.int i, .int j]/\P (.int (if j>i then j else i))
theorem K0{G:Hp}{vs:List V}{i j:Int}(h:DvAll Z G vs [.int i, .int j]):vs= [.int i, .int j]:=by
 cases h with
 |cons a as=>
  cases as with
  |cons b bs=>cases bs;cases a;cases b;rfl
theorem AQ(hc:X.calm=true):cU X (.builtin "max") (jm Z O7):=by
 refine(CD hc).imp ?_;intro xs H Q aL;rfl';obtain⟨G,ds,P,s,dv,⟨i,j,rfl,h⟩,q⟩:=aL;ac_rfl;exact⟨i,j,K0 dv,q _ h _ G H (.refl s) (.int _)⟩
theorem qE{G:Hp}:∀{vs:List V}{ns:List Int},DvAll Z G vs (ns.map D.int)->vs=ns.map V.int
 |vs,[],h=>by cases h;rfl
 |vs,b::bs,h=>by
  cases h with
  |cons a as=>cases a;rw[qE as];rfl
def pairD(k:Nat×Nat):D:= .tup [.int (k.1:Nat), .int (k.2:Nat)]
theorem yj{G:Hp}:∀{vs:List V}{ns:List (Nat×Nat)},DvAll Z G vs (ns.map pairD)->∃L:List (Addr×(Nat×Nat)),vs=L.map (λe=>V.ref e.1)/\L.map (·.2)=ns/\FD G L
 |vs,[],h=>by cases h;exact⟨[],rfl,rfl,λp hp=>by cases hp⟩
 |vs,n::ns,h=>by
  cases h with
  |cons a as=>
   obtain⟨L,h1,h2,h3⟩:=yj as;unfold pairD at a;cases a with
   | @tup p xs ds hp e=>
    refine⟨(p,n)::L,by rw[h1];rfl,by rw[<-h2];rfl,λq hq=>?_⟩
    rcases cD.mp hq with rfl|hq
    ·have:xs=D4 n:=by
      cases e with
      |cons a1 a2=>
       cases a2 with
       |cons b1 b2=>cases a1;cases b1;cases b2;rfl
     rw[<-this];exact hp
    ·exact h3 q hq
theorem FD.dv{G:Hp}:∀{L:List (Addr×(Nat×Nat))},FD G L->DvAll Z G (L.map λe=>V.ref e.1) ((L.map (·.2)).map pairD)
 | [],_=> .nil
 |x::L,h=> .cons (.tup (h x (cw ..)) (.cons (.int _) (.cons (.int _) .nil))) (FD.dv λp hp=>h p (b8 _ hp))
def Lq(ta tb:aY):aY:=λρ P=>ta ρ λd=>∃l,d= .lst l/\tb ρ λy=>df y=true/\l.all df=true/\∃(j:Nat)(z:D),l[j]? =some z/\fN z y=true/\(∀(m:Nat) z,m<j->l[m]? =some z->fN z y=false)/\P (.int (j:Nat))
theorem kC{aS:Pos}(ho:DE Z X o ta)(he:DE Z X e tb)
  (eV:attributeBase o "index" X.env (eval o X.env)=eval o X.env:=by rfl)
  (jg:((backTo aS (starEach [e] X.env)).all (λx=>!x.1)&&(backToKw aS (keywordEach [] X.env)).all (λx=>x.1.isSome)&&decide (([e]:List Expr).length+([]:List Keyword).length+(if ([]:List Keyword).isEmpty then 0 else 1)<30))=true:=by rfl)
  (dS:(apos.endLine==aS.line)=true:=by rfl) (hs:starEach [e] X.env=(false,eval e X.env)::starEach [] X.env:=by rfl) (eW:(backTo aS (starEach [] X.env)).any (·.1)=false:=by rfl):
  DE Z X (.Call (.Attribute o "index" apos) [e] [] aS) (Lq ta tb):=by
 refine(qc PySem.F.plainAttrs_list PySem.F.slot_list_index PySem.F.type_list_index GH ho (bV he dO hs) eV jg dS hs eW).imp ?_;intro σ H Q aL;rfl';obtain⟨G,ρ,P,s,en,h,q⟩:=aL;ac_rfl;refine⟨G,ρ,_,s,en,h,?_⟩;rintro _ ⟨l,rfl,hd⟩ v G1 H1 x1 dv;cases dv with
 | @lst p xs ds hp e=>
  refine⟨ty_list (x1.sub _ _ hp),G1,ρ,_,x1.sub,en.mono x1.gg,hd,λy hy u G2 H2 x2 du=>?_⟩;rfl';obtain⟨h1,h2,j,z,h3,h4,h5,h6⟩:=hy;have e2:=e.mono x2.gg;obtain⟨w,hw,dw⟩:=e2.get h3;ac_rfl;refine⟨p,xs,u,j,w,rfl,rfl,x2.hh _ _ (x1.sub _ _ hp),by rw[qG du];exact h1,by rw[mY e2];exact h2,hw,by rw[zN dw du];exact h4,λm z' hm hz=>?_,q _ h6 _ G2 H2 (x1.trans x2) (.int _)⟩
  obtain⟨d',jf,lD⟩:=e2.Be hz;rw[zN lD du];exact h5 m d' hm jf
end
structure EE (Z:DC):Prop where
 cl:uW Z.K Z.C
 nR:lh Z.K Z.C "rows"
section
variable {Z:DC} {X:Cx} {a b c e o:Expr} {ta tb te:aY} {t:gq} {es:List Expr} {pos apos:Pos}
def Qa(ta:aY):aY:=λρ P=>ta ρ λd=>∃w,d= .fk w/\P (ay w)
theorem qw(T:EE Z)(ha:DE Z X o ta)(eK:X.K=Z.K:=by rfl)(hb:attributeBase o "rows" X.env (eval o X.env)=eval o X.env:=by rfl):DE Z X (.Attribute o "rows" apos) (Qa ta):=by
 refine(MG ha hb).imp ?_;intro σ H Q aL;rfl';obtain⟨G,ρ,P,s,en,h,q⟩:=aL;ac_rfl;refine⟨G,ρ,_,s,en,h,?_⟩;rintro _ ⟨w,rfl,hd⟩ v G1 H1 x1 dv;cases dv with
 | @fk p dx R w hp hr g h1 h2=>exact⟨p,Z.C,dx,_, .ref R,rfl,x1.sub _ _ hp,by rw[eK];exact T.cl,by rw[eK];exact T.nR,rfl,q _ hd _ G1 H1 x1 hr⟩
def CK(sd:bP)(ta:aY)(t:gq):aY:=λρ P=>ta ρ λd=>∃w,d= .fk w/\t ρ λds=>sd (.fk w::ds) P
theorem yJ{m:Str}{sd:bP}(hm:([("rows",V.ref 0)]:List (Str×V)).lookup m=none):∀σ H Q,eG Z (CK sd ta t) σ H Q->Ek Z.C m (aF Z sd) [] E0 (eG Z ta) (DB Z t) σ H Q:=by
 intro σ H Q aL;rfl';obtain⟨G,ρ,P,s,en,h,q⟩:=aL;ac_rfl;refine⟨G,ρ,_,s,en,h,?_⟩;rintro _ ⟨w,rfl,hd⟩ v G1 H1 x1 dv;have dv0:=dv;cases dv with
 | @fk p dx R w hp hr g h1 h2=>
  refine⟨p,dx,_,rfl,x1.sub _ _ hp,?_,G1,ρ,_,x1.sub,en.mono x1.gg,hd,λds C4 vs G2 H2 x2 bu=>?_⟩
  ·have hz:(m==("rows":Str))=false:=by
    cases z:(m==("rows":Str)) with
    |false=>rfl
    |true=>simp[List.lookup,z] at hm
   simp[List.lookup,hz]
  ·show aF Z sd (V.ref p::(vs++ [])) H2 Q E0
   rw[pD];exact⟨G2,_,P,x2.sub, .cons (dv0.mono x2.gg) bu,C4,λd hd v G3 H3 x3 Qe=>q d hd v G3 H3 ((x1.trans x2).trans x3) Qe⟩
variable {sd:bP} {k:Nat} {f:Addr} {fd:FuncData} {ps:List Str} {m:Str}
theorem A1{pl:Sem Bool}(T:EE Z)(ho:DE Z X o ta)(hm:Meth Z.K Z.C m f)(F:FnOk X.prog X.w X.K X.mg X.base bB k f fd ps (aF Z sd))(hr:cn k X.A)(hb:Binds X.K fd ps [])(ha:DA Z X (e::es) t)(eK:X.K=Z.K:=by rfl)
  (C7:([("rows",V.ref 0)]:List (Str×V)).lookup m=none:=by decide) (kF:starEach (e::es) X.env=(false,eval e X.env)::starEach es X.env:=by rfl) (eF:(backTo pos (starEach es X.env)).any (·.1)=false:=by rfl)
  (ht:eval (.Call (.Attribute o m apos) (e::es) [] pos) X.env=(do
   let ov <-eval o X.env
   standAt apos.atName
   let (f,first) <-holding [ov] (getMethod ov m pl)
   callWith pos f first (backTo pos (starEach (e::es) X.env)) (backToKw pos (keywordEach [] X.env))):=by rfl):DE Z X (.Call (.Attribute o m apos) (e::es) [] pos) (CK sd ta t):=
 (J0 (pl:=pl) ho (by rw[eK];exact T.cl) (by rw[eK];exact hm) F hr hb .nil qa ha kF eF ht).imp (yJ C7)
theorem cQ{pl:Sem Bool}(T:EE Z)(ho:DE Z X o ta)(hm:Meth Z.K Z.C m f)(F:FnOk X.prog X.w X.K X.mg X.base bB k f fd ps (aF Z sd))(hr:cn k X.A)(hb:Binds X.K fd ps [])(eK:X.K=Z.K:=by rfl)
  (C7:([("rows",V.ref 0)]:List (Str×V)).lookup m=none:=by decide)
  (ht:eval (.Call (.Attribute o m apos) [] [] pos) X.env=(do
   let ov <-eval o X.env
   standAt apos.atName
   let (f,first) <-holding [ov] (getMethod ov m pl)
   callWith pos f first (backTo pos (starEach [] X.env)) (backToKw pos (keywordEach [] X.env))):=by rfl):DE Z X (.Call (.Attribute o m apos) [] [] pos) (CK sd ta cW):=
 (GR (pl:=pl) ho (by rw[eK];exact T.cl) (by rw[eK];exact hm) F hr hb .nil qa ht).imp λσ H Q h=>by
  rfl';obtain⟨G,ρ,P,s,en,h,q⟩:=yJ C7 σ H Q h;ac_rfl;refine⟨G,ρ,P,s,en,h,λd hd v G1 H1 x1 dv=>?_⟩;rfl';obtain⟨p,dx,fs,h1,h2,h3,G',aD,P',s',en',h',q'⟩:=q d hd v G1 H1 x1 dv;ac_rfl;exact⟨p,dx,fs,h1,h2,h3,q' _ h' _ G' _ (.refl s') .nil⟩
def B5(Z:DC):Sp:=λvs H Q _=>∃(p dx:Addr)(v:V)(G:Hp)(w:List (List Nat)),vs= [.ref p,v]/\H p=some (.ins Z.C dx [])/\aM G H/\G p=none/\Dv Z G v (ay w)/\Wb.Good w/\1<=w.length/\w.length<=14/\
 ∀(R:Addr)(G' H':Hp),aM G G'->aM G' H'->(∀b o,H b=some o->b≠p->H' b=some o)->(∀b,H b≠none->G b=none->G' b=none)->H' p=some (.ins Z.C dx [("rows", .ref R)])->Dv Z G' (.ref R) (ay w)->Q .aZ H'
def P2(t:gq):aY:=λρ P=>t ρ λds=>∃w,ds= [ay w]/\Wb.Good w/\1<=w.length/\w.length<=14/\P (.fk w)
theorem Ia{x:Str}{p:Pos}(M:Mk Z.K Z.C f)(F:FnOk X.prog X.w X.K X.mg X.base bB k f fd ps (B5 Z))(hr:cn (k+1) X.A)(hg:Gl X x)(hm:X.mg x=some (.ref Z.C))(hb:Binds X.K fd ps [])
  (ha:DA Z X (e::es) t) (eK:X.K=Z.K:=by rfl) (ik:(x==("__debug__":Str))=false:=by decide) (he:starEach (e::es) X.env=(false,eval e X.env)::starEach es X.env:=by rfl) (eF:(backTo pos (starEach es X.env)).any (·.1)=false:=by rfl):
  DE Z X (.Call (.Name x p) (e::es) [] pos) (P2 t):=by
 refine(JZ (by rw[eK];exact M) F hr hg hm hb .nil qa ha ik he eF).imp ?_
 intro σ H Q aL;rfl';obtain⟨G,ρ,P,s,en,h,q⟩:=aL;ac_rfl;refine⟨G,ρ,_,s,en,h,?_⟩;rintro _ ⟨w,rfl,g,h1,gb,hp⟩ vs G1 H1 x1 bu p dx hx hdx ne;cases bu with
 | @cons v _ _ _ dv bu=>
  cases bu;have qK:upd H1 dx (.own p) p=none:=by rw[aw (Ne.symm ne)];exact hx
  have sJ:=(aV hdx (.own p)).trans (aV qK (.ins Z.C dx []));refine⟨p,dx,v,G1,w,rfl,au,x1.sub.trans sJ,x1.sub.free hx,dv,g,h1,gb,λR G2 H2 g1 g2 kp off QS qC=>⟨rfl,?_⟩⟩;have gp:G2 p=none:=off p (by rw[au];exact λz=>nomatch z) (x1.sub.free hx)
  refine q _ hp _ (upd G2 p (.ins Z.C dx [("rows", .ref R)])) H2 ⟨(x1.gg.trans g1).trans (aV gp _),λb o e=>?_,λb o e=>?_,λb hb hg=>?_⟩ (.fk au (qC.mono (aV gp _)) g h1 gb)
  ·by_cases z:b=p
   ·subst z;rw[au] at e;cases e;exact QS
   ·rw[aw z] at e;exact g2 _ _ e
  ·have e1:=x1.hh _ _ e
   exact kp b o (sJ _ _ e1) (aU e1 hx)
  ·have LK:=eH x1.hh hb
   have nb:b≠p:=λz=>LK (by rw[z];exact hx)
   rw[aw nb];exact off b (eH sJ LK) (x1.off b hb hg)
end
section
variable {Z:DC} {X:Cx} {pos:Pos}
theorem bT.snoc{R:V->D->List Addr->Prop}:∀{vs:List V}{ds:List D}{fs:List Addr}{v:V}{d:D}{f:List Addr},bT R vs ds fs->R v d f->bT R (vs++ [v]) (ds++ [d]) (fs++f)
 |_,_,_,v,d,f, .nil,r=>by simpa using bT.cons r .nil
 |_,_,_,v,d,f, .cons a as,r=>by rw[xi];exact .cons a (as.snoc r)
variable {tg iter elt:Expr} {scope:Scope} {NC:List Str} {src:List (Option Nat)} {wi:iM} {g:fi} {tf:gu} {md:List Nat} {rn:Nat}
end
abbrev iW:=inClass
structure Cz (Z:DC) (m qual:Str) (st:Stmt) (ps:List Str) where
 f:Addr
 fd:FuncData
 F:uZ Z.K m qual st f fd
 b:Binds Z.K fd ps []
 m:Meth Z.K Z.C m f
def rR(K:PySem.W.Frag):Sp:=λvs H Q _=>∃(a:Addr)(ns:List Int),vs= [.ref a]/\bX K H a (ns.map V.int)/\ns.length<=63/\∀H',Q (.bl true) H'
def Fs:bP:=λds P=>∃ns:List Int,ds= [.lN ns]/\ns.length<=63/\P (.bl true)
theorem Mb{Z:DC}:∀vs H Q E,rR Z.K vs H Q E->aF Z Fs vs H Q E:=by
 rintro vs H Q E ⟨a,ns,rfl,hS,hl,q⟩;exact⟨H,[.lN ns],λd=>d= .bl true, .refl _, .cons (.lN hS hl) .nil,⟨ns,rfl,hl,rfl⟩,λd hd v G' H' x dv=>by subst hd;cases dv;exact q H'⟩
theorem R0(k:Nat){l:PySem.W.OpenLaw}{q:Program}{loose:List Str}{XP:(Str->Option Value)->Heap->Prop}{YP:World->Heap->Prop}{d:DefRec}{K:Params->PySem.W.Frag}(hk1:3*k<150)(hn:l.most=some 63)(C3:d.params.defaults= [])
  (hY:∀(w:World)(h:Heap),YP w h->(K w.params).In h)
  (F:∀(w:World)(mg:Str->Option Value)(fa:Addr)(h:Heap),(K w.params).In h->h.Ns mainGlobals mg->mg d.name=some (.ref fa)->
   ∃fd:FuncData,(∀(s:Shared)(u:Value),BindsTo s fd ⟨[u],[]⟩ [("_law_script",u)])/\∀base:Heap,(K w.params).In base->base.Ns mainGlobals mg->FnOk l.prog w (K w.params) mg base bB k fa fd ["_law_script"] (rR (K w.params))):
  PySem.W.WalkO q loose XP YP l.row.toRowW d [] (λf vs=>PySem.call f vs):=
 L2.K3 (n:=63) (k:=50) (x:="_law_script") (CX:=λ_=>bB) (sp:=λw=>rR (K w.params)) hn (by decide) C3 ⟨rfl,by decide,by decide⟩ hY (λw mg fa h a b c=>by
  obtain⟨fd,h1,h2⟩:=F w mg fa h a b c;exact⟨fd,h1,λbase x y=>(h2 base x y).mono (by omega)⟩) (λ_ _ a ns hl _ hS=>⟨a,ns,rfl,hS,hl,λ_=>rfl⟩) λ_ _ _ _ _ z=>z
theorem bN{c:Bool}{A B:Prop}(h1:c=true->A)(h2:c=false->B):if c=true then A else B:=by
 cases c with
 |true=>exact b9 (h1 rfl)
 |false=>exact bH (h2 rfl)
theorem qN{i:Nat}{tt:dJ}{te:aY}{ρ:DN}{α:Type}(enc:α->D)(p:α->Bool)(f:α->D):∀(ys:List α)(aD:DN)(acc:List D)(N:DN->List D->Prop),(∀y∈ys,∀(Y:D->Prop)(Nn:Prop),(p y=true->Y (f y))->(p y=false->Nn)->tt (ρ.set i (some (enc y))) λb=>if b=true then te (ρ.set i (some (enc y))) Y else Nn)->
  (∃o,aD=ρ.set i o)->acc.length+ys.length<=sizeLine->(∀aD,N aD (acc++(ys.filter p).map f))->lcW (qy i) tt te (ys.map enc) aD acc N
 | [],aD,acc,N,_,_,_,h=>by
  show N aD acc;simpa using h aD
 |y::ys,aD,acc,N,hs,⟨o,ho⟩,hz,h=>by
  show tt (aD.set i (some (enc y))) _;rw[ho,List.set_set];rw[dD] at hz;refine hs y (cw ..) _ _ (λhp=>⟨by omega,?_⟩) (λhp=>?_)
  ·refine qN enc p f ys _ (acc++ [f y]) N (λz hz=>hs z (b8 _ hz)) ⟨_,rfl⟩ (by simp;omega) λxq=>?_
   have:=h xq
   rw[jY,hp] at this;simpa using this
  ·refine qN enc p f ys _ acc N (λz hz=>hs z (b8 _ hz)) ⟨_,rfl⟩ (by omega) λxq=>?_
   have:=h xq
   rw[jY,hp] at this;simpa using this
theorem fU{i:Nat}{te:aY}{ρ:DN}{α:Type}(enc:α->D)(f:α->D)(ys:List α)(N:DN->List D->Prop)(hs:∀y∈ys,∀(Y:D->Prop),Y (f y)->te (ρ.set i (some (enc y))) Y)(h0:ρ[i]? =some none)(hz:ys.length<=sizeLine)(h:∀aD,N aD (ys.map f)):lcW (qy i) tN te (ys.map enc) ρ [] N:=by
 refine qN (ρ:=ρ) enc (λ_=>true) f ys ρ [] N (λy hy Y Nn h1 _=>?_) ⟨none,?_⟩ (by simpa using hz) λaD=>by rw[List.filter_eq_self.mpr (λ_ _=>rfl),ue];exact h aD
 ·unfold tN
  dsimp only;rw[if_pos rfl];exact hs y hy Y (h1 rfl)
 ·obtain⟨hi,e⟩:=cT.mp h0
  rw[<-e,List.set_getElem_self]
theorem yx{g:fi}{tb:cx}{E:fJ}(I:Nat->DN->Prop):∀(ds:List D)(k:Nat)(ρ:DN),I k ρ->(∀(j:Nat)(d:D)(ρ:DN),ds[j]? =some d->I (k+j) ρ->∀A:DN->Prop,(∀ρ,I (k+j+1) ρ->A ρ)->g d ρ λbK=>tb {nx:=A,ct:=A,bk:=E.nx,rt:=E.rt,xc:=E.xc} bK)->
  (∀ρ,I (k+ds.length) ρ->E.nx ρ)->lY g tb E ds ρ
 | [],k,ρ,h0,hs,he=>he ρ h0
 |d::ds,k,ρ,h0,hs,he=>by
  refine hs 0 d ρ rfl h0 _ λaD h'=>?_
  exact yx I ds (k+1) aD h' (λj d' fm hj h2 A hA=>by
   refine hs (j+1) d' fm (by simpa using hj) (by rw[show k+(j+1)=k+1+j by omega];exact h2) A λρ3 h3=>hA ρ3 ?_
   rw[show k+1+j+1=k+(j+1)+1 by omega];exact h3) (λfm h2=>he fm (by rw[dD,show k+(ds.length+1)=k+1+ds.length by omega];exact h2))
theorem bJ{g:fi}{tb:cx}{E:fJ}{ds:List D}{ρ:DN}(I:Nat->DN->Prop)(h0:I 0 ρ)(hs:∀(j:Nat)(d:D)(ρ:DN),ds[j]? =some d->I j ρ->∀A:DN->Prop,(∀ρ,I (j+1) ρ->A ρ)->g d ρ λbK=>tb {nx:=A,ct:=A,bk:=E.nx,rt:=E.rt,xc:=E.xc} bK)
  (he:∀ρ,I ds.length ρ->E.nx ρ):lY g tb E ds ρ:=yx I ds 0 ρ h0 (λj d ρ hj h A hA=>hs j d ρ hj (by simpa using h) A λaD h'=>hA aD (by simpa using h')) (λρ h=>he ρ (by simpa using h))
theorem Bc{g:fi}{tb:cx}{E:fJ}{lo:Int}{n:Nat}{ρ:DN}(I:Nat->DN->Prop)(h0:I 0 ρ)(hs:∀(j:Nat)(ρ:DN),j<n->I j ρ->∀A:DN->Prop,(∀ρ,I (j+1) ρ->A ρ)->g (.int (lo+j)) ρ λbK=>tb {nx:=A,ct:=A,bk:=E.nx,rt:=E.rt,xc:=E.xc} bK)
  (he:∀ρ,I n ρ->E.nx ρ):lY g tb E (dk lo n) ρ:=by
 have l:(dk lo n).length=n:=by unfold dk;simp
 refine bJ I h0 (λj d ρ hj h A hA=>?_) (λρ h=>he ρ (by rw[l] at h;exact h))
 have dZ:j<n:=by
  have:=(cT.mp hj).1
  rw[l] at this;exact this
 rw[tX dZ] at hj;cases Option.some.inj hj;exact hs j ρ dZ h A hA
theorem lU{c:dJ}{tb:cx}{E:fJ}{ρ:DN}(I:Nat->DN->Prop)(m0:Nat)(h0:I m0 ρ)(hs:∀m ρ,I m ρ->c ρ λb=>if b=true then tb {nx:=λaD=>∃m',m'<m/\I m' aD,ct:=λaD=>∃m',m'<m/\I m' aD,bk:=E.nx,rt:=E.rt,xc:=E.xc} ρ else E.nx ρ):EM c tb E ρ:=⟨I,⟨m0,h0⟩,hs⟩
theorem zA:bootBuiltins "reversed"=some (.type "reversed"):=by decide+kernel
section
variable {Z:DC} {X:Cx} {a b c e:Expr} {ta tb te:aY} {t:gq} {pos:Pos}
variable {md:List Nat} {rn:Nat} {k:Expr} {tk:aY}
variable {apos aS:Pos}
variable {es:List Expr}
def Ir(sd:bP)(t:gq):gu:=λρ P=>t ρ λas=>sd as λd=>∃ds,d= .lst ds/\P ds
theorem Ie{n:Nat}{sd:bP}{k:Nat}{f:Addr}{fd:FuncData}{ps:List Str}{x:Str}{p:Pos}(F:FnOk X.prog X.w X.K X.mg X.base bB k f fd ps (gz Z n sd))(hr:cn k X.A)(hg:Gl X x)(hm:X.mg x=some (.ref f))(hk:PySem.W.keepIn X.K (.ref f)=true)(hb:Binds X.K fd ps [])
  (ha:DA Z X (e::es) t) (ik:(x==("__debug__":Str))=false:=by decide) (he:starEach (e::es) X.env=(false,eval e X.env)::starEach es X.env:=by rfl) (eF:(backTo pos (starEach es X.env)).any (·.1)=false:=by rfl):
  DF Z X n (.Call (.Name x p) (e::es) [] pos) (Ir sd t):=by
 refine(rm F hr hg hm hk hb .nil qa ha ik he eF).imp ?_;intro σ H Q aL;rfl';obtain⟨G,ρ,P,s,en,h,q⟩:=aL;ac_rfl;refine⟨G,ρ,_,s,en,h,λds hd vs G1 H1 x1 bu=>?_⟩;show gz Z n sd (vs++ []) H1 Q E0;rw[pD];refine⟨G1,ds,_,x1.sub,bu,hd,?_⟩;intro _ z10 v f G2 H2 x2 o nd nw;rfl';obtain⟨fM,rfl,hp⟩:=z10;ac_rfl;exact q _ hp v f G2 H2 (x1.trans x2) o nd λb hb=>⟨x1.hh.free (nw b hb).1,(nw b hb).2⟩
end
section
variable {X:Cx} {elt t0 i0 t1 i1:Expr} {f0 f1:List Expr} {scope:Scope} {pos:Pos} {wi gh:TI} {g g1:TG} {tt dP:TT} {te:TE} {src:List (Option Nat)} {NC:List Str}
end
section
variable {Z:DC} {X:Cx} {md:List Nat} {rn:Nat} {elt t0 i0 t1 i1:Expr} {f0 f1:List Expr} {scope:Scope} {pos:Pos} {wi gh:iM} {g g1:fi} {tt dP:dJ} {te:aY} {src:List (Option Nat)} {NC:List Str}
end
section
variable {Z:DC} {X:Cx} {md:List Nat} {rn:Nat} {e:Expr} {pos:Pos}
theorem DvAll.flat{G G':Hp}:∀{vs:List V}{ds:List D},DvAll Z G vs ds->ds.all df=true->DvAll Z G' vs ds
 |_,_, .nil,_=> .nil
 |_,_, .cons a as,h=>by
  rw[tH,iJ] at h;exact .cons (a.flat h.1) (as.flat h.2)
end
theorem f9{l:List D}{j:Nat}{d:D}(h:(fv l)[j]? =some d):∃x,l[j]? =some x/\d= .tup [.int (j:Int),x]:=by
 unfold fv at h;rw[List.getElem?_mapIdx] at h;cases e:l[j]? with
 |none=>rw[e] at h;cases h
 |some x=>rw[e] at h;cases h;exact⟨x,rfl,rfl⟩
theorem gR(l:List D):(fv l).length=l.length:=by unfold fv;simp
theorem bZ{α β:Type}{f:α->β}{l:List α}{j:Nat}{y:β}(h:(l.map f)[j]? =some y):∃x,l[j]? =some x/\y=f x:=by
 rw[cL] at h;cases e:l[j]? with
 |none=>rw[e] at h;cases h
 |some x=>rw[e] at h;cases h;exact⟨x,rfl,rfl⟩
theorem bQ(r:List Nat):(r.map ag).all df=true:=by simp[ag,df]
theorem vL{r:List Nat}{p:Nat}:inD (ag p) (r.map ag)=decide (p∈r):=by
 unfold inD;rw[List.any_map]
 have:((λy=>fN y (ag p))∘ag)=λq:Nat=>decide (q=p):=by
  funext q
  simp[ag,fN,Function.comp]
  by_cases z:q=p
  ·simp[z]
  ·have:¬(q:Int)=(p:Int):=by omega
   simp[z,this]
 rw[this]
 by_cases h:p∈r
 ·rw[decide_eq_true h,List.any_eq_true];exact⟨p,h,by simp⟩
 ·rw[decide_eq_false h]
  apply Ct.mpr;intro z;rw[List.any_eq_true] at z;obtain⟨q,hq,e⟩:=z
  exact h (by have:q=p:=by simpa using e
              rw[<-this];exact hq)
theorem bC{l:List D}{p:Nat}{d:D}(h:l[p]? =some d):gv l (p:Int)=some d:=AJ h
theorem kU{w:List (List Nat)}{p:Nat}(h:p<w.length):(w.map av)[p]? =some (av (Wb.row w p)):=by
 rw[cL,Wb.BV h];rfl
section
variable {Z:DC} {X:Cx} {md:List Nat} {rn:Nat} {e:Expr} {te:aY} {pos:Pos}
def PY(te:aY):cx:=λE ρ=>te ρ λ_=>E.nx ρ
theorem vw(he:DE Z X e te)(hs:swapsWith e none pos.line X.env=pure false:=by rfl):DSt Z X md rn (.Expr e pos) (PY te):=by
 refine(jr he hs).imp ?_;intro D σ H aL;rfl';obtain⟨B,ρ,E,⟨G,fp,S⟩,h,M⟩:=aL;ac_rfl;exact⟨H,ρ,_, .refl _,S.A8,h,λd hd v G' H' x dv=>M.nx _ hd _ _ ⟨G,fp,S.grow (Ext.all S.ex.sub x)⟩⟩
end
theorem OY{ρ:DN}{A B:Prop}(h:A):tN ρ (λb=>if b=true then A else B):=by
 unfold tN;dsimp only;rw[if_pos rfl];exact h
theorem yD{c:Bool}{A B:Prop}(e:c=false)(h:B):if c=true then A else B:=by rw[if_neg (by rw[e];exact cB)];exact h
theorem jK{g:fi}{tt:dJ}{te:aY}{α:Type}(I:DN->Prop)(enc:α->D)(p:α->Bool)(f:α->D):∀(ys:List α)(aD:DN)(acc:List D)(N:DN->List D->Prop),(∀y∈ys,∀aD,I aD->∀(Y:DN->D->Prop)(Nn:DN->Prop),(∀bK,I bK->p y=true->Y bK (f y))->(∀bK,I bK->p y=false->Nn bK)->g (enc y) aD λbK=>tt bK λb=>if b=true then te bK (Y bK) else Nn bK)->
  I aD->acc.length+ys.length<=sizeLine->(∀aD,I aD->N aD (acc++(ys.filter p).map f))->lcW g tt te (ys.map enc) aD acc N
 | [],aD,acc,N,_,hI,_,h=>by
  show N aD acc;simpa using h aD hI
 |y::ys,aD,acc,N,hs,hI,hz,h=>by
  rw[dD] at hz;refine hs y (cw ..) aD hI (λbK d=>acc.length<sizeLine/\lcW g tt te (ys.map enc) bK (acc++ [d]) N) (λbK=>lcW g tt te (ys.map enc) bK acc N) (λbK h1 hp=>⟨by omega,?_⟩) (λbK h1 hp=>?_)
  ·refine jK I enc p f ys _ (acc++ [f y]) N (λz hz=>hs z (b8 _ hz)) h1 (by simp;omega) λxq h2=>?_
   have:=h xq h2
   rw[jY,hp] at this;simpa using this
  ·refine jK I enc p f ys _ acc N (λz hz=>hs z (b8 _ hz)) h1 (by omega) λxq h2=>?_
   have:=h xq h2
   rw[jY,hp] at this;simpa using this
theorem fI{α:Type}{us:List α}(h:us.length=1):∃a0,us= [a0]:=by
 cases us with
 |nil=>cases h
 |cons a l=>
  cases l with
  |nil=>exact⟨a,rfl⟩
  |cons _ _=>cases h
theorem jk{α:Type}{us:List α}(h:us.length=2):∃a0 a1,us= [a0,a1]:=by
 cases us with
 |nil=>cases h
 |cons a l=>
  obtain⟨a1,rfl⟩:=fI (Nat.succ.inj h);exact⟨a,a1,rfl⟩
theorem m9{α:Type}{us:List α}(h:us.length=3):∃a0 a1 a2,us= [a0,a1,a2]:=by
 cases us with
 |nil=>cases h
 |cons a l=>
  obtain⟨a1,a2,rfl⟩:=jk (Nat.succ.inj h);exact⟨a,a1,a2,rfl⟩
theorem EZ{α:Type}{us:List α}(h:us.length=4):∃a0 a1 a2 a3,us= [a0,a1,a2,a3]:=by
 cases us with
 |nil=>cases h
 |cons a l=>
  obtain⟨a1,a2,a3,rfl⟩:=m9 (Nat.succ.inj h);exact⟨a,a1,a2,a3,rfl⟩
theorem W9{α:Type}{us:List α}(h:us.length=5):∃a0 a1 a2 a3 a4,us= [a0,a1,a2,a3,a4]:=by
 cases us with
 |nil=>cases h
 |cons a l=>
  rfl';obtain⟨a1,a2,a3,a4,rfl⟩:=EZ (Nat.succ.inj h);ac_rfl;exact⟨a,a1,a2,a3,a4,rfl⟩
section
variable {Z:DC} {X:Cx} {e:Expr} {es:List Expr} {t:gq} {pos:Pos}
theorem ax{sd:bP}{k j:Nat}{x:Str}{st:Stmt}{ps:List Str}{p:Pos}(d:cV X.K X.mg x st ps)(F:FnOk X.prog X.w X.K X.mg X.base bB k d.f d.fd ps (aF Z sd))(hr:cn j X.A)(ha:DA Z X (e::es) t)(hg:Gl X x:=by rfl)(hk:k<=j:=by first|decide|omega)
  (ik:(x==("__debug__":Str))=false:=by decide) (he:starEach (e::es) X.env=(false,eval e X.env)::starEach es X.env:=by rfl) (eF:(backTo pos (starEach es X.env)).any (·.1)=false:=by rfl):
  DE Z X (.Call (.Name x p) (e::es) [] pos) (mS sd t):=H0 F (hr.mono hk) hg d.m d.F.kp d.b ha ik he eF
theorem iT{n:Nat}{sd:bP}{k j:Nat}{x:Str}{st:Stmt}{ps:List Str}{p:Pos}(d:cV X.K X.mg x st ps)(F:FnOk X.prog X.w X.K X.mg X.base bB k d.f d.fd ps (gz Z n sd))(hr:cn j X.A)(ha:DA Z X (e::es) t)(hg:Gl X x:=by rfl)(hk:k<=j:=by first|decide|omega)
  (ik:(x==("__debug__":Str))=false:=by decide) (he:starEach (e::es) X.env=(false,eval e X.env)::starEach es X.env:=by rfl) (eF:(backTo pos (starEach es X.env)).any (·.1)=false:=by rfl):
  DF Z X n (.Call (.Name x p) (e::es) [] pos) (Ir sd t):=Ie F (hr.mono hk) hg d.m d.F.kp d.b ha ik he eF
theorem lB{scope:Scope}(sc:Scope)(e:X.env.scope=sc:=by rfl)(k:scope.kind= .function:=by rfl)(a:∀x∈scope.names,x.2= .local->scope.names.lookup x.1=some .local:=by decide+kernel)(b:∀x∈scope.names,x.2≠ .cell:=by decide+kernel)
  (c:∀x∈scope.names,x.2= .free->sc.names.lookup x.1=some .cell\/sc.names.lookup x.1=some .free:=by decide+kernel):cE X scope:=cE.of sc e k a b c
end
section
variable {K:PySem.W.Frag} {h:Heap} {mg:Str->Option Value}
abbrev dY(K:PySem.W.Frag)(x:Str)(d:Addr):Prop:=PySem.W.nsIn K mainGlobals x=some (some (.ref d))
abbrev cN(K:PySem.W.Frag)(x qual:Str)(st:Stmt)(d:Addr)(od an:Option Addr)(sl:Array (Option Value))(oc kV dc pm cd ct:Value):Prop:=K.lookup d=some ⟨oc,od, .func (PySem.W.fnOf x qual (jd st) (ft st) (aq st) .none kV dc pm an cd ct),sl⟩
def cV.of{x:Str}{st:Stmt}{ps:List Str}{d:Addr}{od an:Option Addr}{sl:Array (Option Value)}{oc kV dc pm cd ct:Value}(X:K.In h)(G:h.Ns mainGlobals mg)(a:dY K x d)(l:cN K x x st d od an sl oc kV dc pm cd ct)(c:PySem.W.codeIn K cd x=true)(k:PySem.W.keepIn K (.ref d)=true)
  (b:∀(kV doc pm:Value)(an:Option Addr)(bc ct:Value)(us:List Value),us.length=ps.length->bindArgs (PySem.W.fnOf x x (jd st) (ft st) (aq st) .none kV doc pm an bc ct) ⟨us,[]⟩=pure (ps.zip us)):cV K mg x st ps:=
 ⟨d,_,qH l c k,(qH l c k).binds b,PySem.W.mg_of X G a⟩
def Cz.of{Z:DC}{m qual:Str}{st:Stmt}{ps:List Str}{d:Addr}{od an:Option Addr}{sl:Array (Option Value)}{oc kV dc pm cd ct:Value}(a:PySem.W.findIn Z.K (.ref Z.C) m=some (some (.ref d)))(f:PySem.W.isFn Z.K (.ref d)=true)(l:cN Z.K m qual st d od an sl oc kV dc pm cd ct)(c:PySem.W.codeIn Z.K cd qual=true)(k:PySem.W.keepIn Z.K (.ref d)=true)
  (b:∀(kV doc pm:Value)(an:Option Addr)(bc ct:Value)(us:List Value),us.length=ps.length->bindArgs (PySem.W.fnOf m qual (jd st) (ft st) (aq st) .none kV doc pm an bc ct) ⟨us,[]⟩=pure (ps.zip us)):Cz Z m qual st ps:=
 ⟨d,_,qH l c k,(qH l c k).binds b,⟨a,f,k⟩⟩
end
end L2
namespace Wb
def f7(w:W):Nat:=(w.map List.length).sum
theorem mT{r:List Nat}:∀{w:W}{p:Nat},p<w.length->f7 (w.set p r)+(row w p).length=f7 w+r.length
 | [],_,h=>by simp at h
 |a::w,0,_=>by simp[f7,row];omega
 |a::w,p+1,h=>by
  have ih:=mT (r:=r) (w:=w) (p:=p) (by simpa using h)
  have e:row (a::w) (p+1)=row w p:=by simp[row]
  rw[e];simp only[f7,List.set_cons_succ,j0,List.sum_cons] at ih ⊢;omega
theorem yg(w:W)(r:List Nat):f7 (w++ [r])=f7 w+r.length:=by simp[f7]
theorem GU{l l':List Nat}(h:l.Perm l'):l.sum=l'.sum:=by
 induction h with
 |nil=>rfl
 |cons x _ ih=>simp[ih]
 |swap x y l=>simp;omega
 |trans _ _ ih1 ih2=>exact ih1.trans ih2
theorem sD(w:W):f7 w=((List.range w.length).map λp=>(row w p).length).sum:=by
 unfold f7
 congr 1
 refine List.ext_getElem (by simp) λi h1 h2=>?_
 rw[wV,wV,List.getElem_range];have hi:i<w.length:=by simpa using h1
 have:=BV hi
 rw[bL hi] at this;rw[Option.some.inj this]
theorem Ic{w w':W}{ord:List Nat}(hl:w'.length=w.length)(pm:ord.Perm (List.range w.length))(EX:∀p,p<w.length->(row w' (ord.getD p 0)).Perm ((row w p).map λx=>ord.getD x 0)):f7 w'=f7 w:=by
 rw[sD w',hl,sD w,<-GU (pm.map λp=>(row w' p).length)]
 congr 1
 have ll:ord.length=w.length:=by rw[pm.length_eq,kX]
 refine List.ext_getElem (by simp[ll]) λi h1 h2=>?_
 rw[wV,wV,List.getElem_range];have hi:i<w.length:=by simpa using h2
 have e:ord.getD i 0=ord[i]'(by rw[ll];exact hi):=by rw[bb,bL (by rw[ll];exact hi)];rfl
 have:=(EX i hi).length_eq
 rw[aI,e] at this;exact this
theorem ja(w:W):(bf w).length=f7 w:=by
 rw[sD];unfold bf;rw[List.length_flatMap]
 congr 1
 apply List.map_congr_left;intro p _;rw[aI]
theorem iO{w:W}(g:Good w):(bf w).Nodup:=by
 unfold bf List.Nodup;refine nq (λp _=>?_) ?_
 ·rw[pC]
  exact(g.nod p).imp λne e=>ne (congrArg Prod.snd e)
 ·refine List.Pairwise.imp ?_ List.pairwise_lt_range
  intro a b lt x hx y hy e;obtain⟨_,_,rfl⟩:=dE.mp hx;obtain⟨_,_,rfl⟩:=dE.mp hy
  have:=congrArg Prod.fst e
  simp at this;omega
theorem nY(w:W):iS (row w) w.length=(bf w).filter λd=>decide (d.1<d.2):=by
 unfold iS bf;rw[List.filter_flatMap]
 congr 1
 funext p
 rw[List.filter_map];rfl
theorem wM{w:W}(g:Good w):2*(iS (row w) w.length).length<=f7 w:=by
 rw[nY,<-ja];have h1:=List.length_eq_countP_add_countP (λd:Nat×Nat=>decide (d.1<d.2)) (l:=bf w)
 have h2:((bf w).filter λd=>decide (d.1<d.2)).length<=((bf w).filter λd=>decide (d.2<d.1)).length:=by
  have:=bg (l:=((bf w).filter λd=>decide (d.1<d.2)).map λd=>(d.2,d.1)) (m:=(bf w).filter λd=>decide (d.2<d.1)) ?_ ?_
  ·rwa [aI] at this
  ·unfold List.Nodup
   rw[pC];refine List.Pairwise.imp ?_ ((iO g).filter _);intro a b ne e;have e1:=congrArg Prod.fst e;have e2:=congrArg Prod.snd e;exact ne (Prod.ext e2 e1)
  ·intro x hx
   obtain⟨d,hd,rfl⟩:=dE.mp hx;obtain⟨hd1,hd2⟩:=mF.mp hd;refine mF.mpr ⟨b6.mpr (g.sym _ _ (b6.mp hd1)),?_⟩;simpa using hd2
 have h3:((bf w).filter λd=>decide (d.2<d.1)).length<=(bf w).countP λd=>!decide (d.1<d.2):=by
  rw[<-List.countP_eq_length_filter];apply List.countP_mono_left;intro d _ h;simp at h ⊢;omega
 rw[List.countP_eq_length_filter] at h1
 have h4:(bf w).countP (λd=>!decide (d.1<d.2))=List.countP (λa=>decide ¬(decide (a.1<a.2)=true)) (bf w):=by
  congr 1
  funext d
  by_cases h:d.1<d.2<;>simp[h]
 omega
structure RI (w:W) (bs:List Bool) (ws ex:List Nat) (c:Nat):Prop where
 len:bs.length=w.length
 z:bs[0]? =some true
 wt:∀x∈ws,bs[x]? =some true
 cl:∀x,bs[x]? =some true->x∈ws\/x∈ex\/∀q∈row w x,bs[q]? =some true
 cnt:bs.count false+ws.length<=c
theorem RI.pop{w:W}{bs:List Bool}{ws:List Nat}{p c:Nat}(h:RI w bs (ws++ [p]) [] (c+1)):RI w bs ws [p] c:=
 ⟨h.len,h.z,λx hx=>h.wt x (mE _ hx),λx hx=>by
  rcases h.cl x hx with q|q|q
  ·rcases fR.mp q with q|q
   ·exact .inl q
   ·exact .inr (.inl q)
  ·cases q
  ·exact .inr (.inr q),by have:=h.cnt;rw[dG] at this;simp at this;omega⟩
theorem RI.push{w:W}{bs:List Bool}{ws ex:List Nat}{q c:Nat}(h:RI w bs ws ex c)(hq:bs[q]? =some false):RI w (bs.set q true) (ws++ [q]) ex c:=by
 obtain⟨hl,he⟩:=cT.mp hq
 have up:∀x,bs[x]? =some true->(bs.set q true)[x]? =some true:=λx hx=>by
  rw[gM]
  by_cases e:q=x
  ·rw[if_pos e,if_pos hl]
  ·rw[if_neg e];exact hx
 refine⟨by rw[cM];exact h.len,up _ h.z,λx hx=>?_,λx hx=>?_,?_⟩
 ·rcases fR.mp hx with z|z
  ·exact up _ (h.wt x z)
  ·have:x=q:=by simpa using z
   rw[this,gM,if_pos rfl,if_pos hl]
 ·by_cases e:q=x
  ·exact .inl (by rw[e];simp)
  ·rw[gM,if_neg e] at hx
   rcases h.cl x hx with z|z|z
   ·exact .inl (mE _ z)
   ·exact .inr (.inl z)
   ·exact .inr (.inr λy hy=>up _ (z y hy))
 ·have hc:=h.cnt
  have:0<bs.count false:=List.count_pos_iff.mpr (by rw[<-he];exact kZ hl)
  rw[List.count_set hl,he,dG];simp;omega
theorem RI.close{w:W}{bs:List Bool}{ws:List Nat}{p c:Nat}(h:RI w bs ws [p] c)(hp:∀q∈row w p,bs[q]? =some true):RI w bs ws [] c:=
 ⟨h.len,h.z,h.wt,λx hx=>by
  rcases h.cl x hx with q|q|q
  ·exact .inl q
  ·have:x=p:=by simpa using q
   rw[this];exact .inr (.inr hp)
  ·exact .inr (.inr q),h.cnt⟩
theorem RI.all{w:W}{bs:List Bool}{c:Nat}(g:Good w)(h:RI w bs [] [] c):bs=List.replicate w.length true:=by
 have:=AS g (S:=λx=>bs[x]? =some true) h.z λp q hp hq=>by
  rcases h.cl p hp with z|z|z
  ·cases z
  ·cases z
  ·exact z q hq
 refine xj λi=>?_
 by_cases hi:i<w.length
 ·rw[this i hi,n6,if_pos hi]
 ·rw[eQ (by rw[h.len];omega),eQ (by simp;omega)]
structure yb (w:W):Prop where
 rng:∀p q,q∈row w p->q<w.length
 irr:∀p,p∉row w p
 nod:∀p,(row w p).Nodup
 sym:∀p q,q∈row w p->p∈row w q
theorem Good.near{w:W}(g:Good w):yb w:=⟨g.rng,g.irr,g.nod,g.sym⟩
theorem yb.good{w:W}(n:yb w)(h:∀p,p<w.length->Reach w 0 p):Good w:=⟨n.rng,n.irr,n.nod,n.sym,h⟩
end Wb
namespace PySem
namespace F
theorem DU:typeLookup (.type "list_reverseiterator") "__len__"=pure none:=by rw[typeLookup_type,builtinLookup_eq_fast];kernel_rfl
theorem Gj:typeLookup (.type "list_reverseiterator") "__length_hint__"=pure (some (.builtin "list_reverseiterator.__length_hint__")):=by rw[typeLookup_type,builtinLookup_eq_fast];kernel_rfl
end F
section
variable {prog:Program} {w:World} {A:Around} {s:Shared} {R:Result->Shared->Prop}
variable {I:Addr} {fp wr:List Addr} {G:Array GenState->Array GenState->Prop} {n:Nat} {P:Nat->Value->Prop} {St:Nat->Shared->Prop}
theorem Bb(W:WalksS prog w A.in1 I fp wr G n P St)(hT:∀i s,St i s->s.TypeIs (.ref I) "list_reverseiterator")(S:Addr)(res:Value)(c₀:Nat)(kF:St 0 s)(CZ:S∉fp)(hI:I∈fp)
  (hS:s.heap.get? S=some {cls:= .type "list",data:= .seq #[] c₀})
  (hR:∀s' eM c',Moved (S::wr) G s s'->s'.heap.get? S=some {cls:= .type "list",dict:=none,data:= .seq eM c',slots:= #[]}->ItemsOf P eM n->R (.ok (.ret res)) s') (hn:n<=sizeLine):
  wpAny (model prog w) A.in1 (Builtin.List.listExtendWith (.ref S) (.ref I) res)
   (λfin s'=>match fin with| .done f=>R (.ok f) s'| .again c'=>c'.quiet=true/\codeAny (model prog w) A c' R s') (λe s'=>R (.error e) s') s:=by
 have hSI:S≠I:=λe=>CZ (e▸hI);unfold Builtin.List.listExtendWith;refine wpAny_bind (wpAny_typeOf (hT 0 _ kF) ?_);have h1:Builtin.List.listSameRef (.ref S) (.ref I)=false:=by simp[Builtin.List.listSameRef,hSI]
 have h2:(Value.type "list_reverseiterator"==Value.type "list")=false:=by decide
 have h3:(Value.type "list_reverseiterator"==Value.type "tuple")=false:=by decide
 simp only[h1,h2,h3,Bool.or_false,gL,if_false];refine wpAny_bind (W.self 0 _ _ _ kF ?_);refine wpAny_bind (wpAny_holding ?_);unfold Builtin.List.listLengthHint;refine wpAny_bind (wpAny_specialOf (hT 0 _ kF) F.DU ?_);refine wpAny_bind (wpAny_specialOf (hT 0 _ kF) F.Gj ?_);generalize VO:("list_reverseiterator.__length_hint__":String)=id0
 wp_delta
 rw[show splitId id0=some ("list_reverseiterator","__length_hint__") from by subst VO;decide+kernel]
 subst VO;refine wpAny_bind (wpAny_isInstance (b:=true) (hT 0 _ kF) (by rw[isSubtype_type];kernel_rfl) ?_)
 refine wpAny_pure ?_;rw[if_neg (by decide)]
 exact wpAny_pure ⟨plainId_quiet F.plain_extend_loop _,codeAny_extend_loopS W hn _ CZ _ n 0 _ _ _ rfl (cI _) kF hS (ItemsOf.nil P) hR⟩
theorem vT(W:WalksS prog w A.in1 I fp wr G n P St)(hT:∀i s,St i s->s.TypeIs (.ref I) "list_reverseiterator")(S:Addr)(kF:St 0 s)(CZ:S∉fp)(hI:I∈fp)
  (hS:s.heap.get? S=some {cls:= .type "list",data:= .seq #[]})
  (hR:∀s' eM c',Moved (S::wr) G s s'->s'.heap.get? S=some {cls:= .type "list",dict:=none,data:= .seq eM c',slots:= #[]}->ItemsOf P eM n->R (.ok (.ret .none)) s') (hn:n<=sizeLine):
  wpAny (model prog w) A.in1 (Builtin.«list.__init__» ⟨[.ref S, .ref I],[]⟩)
   (λfin s'=>match fin with| .done f=>R (.ok f) s'| .again c'=>c'.quiet=true/\codeAny (model prog w) A c' R s') (λe s'=>R (.error e) s') s:=by
 show wpAny _ A.in1 (do let old <-Builtin.List.listItems (.ref S);Builtin.List.listUpdate (.ref S) (λ_=> #[]);letGo old.toList.reverse;Builtin.List.listExtendWith (.ref S) (.ref I) .none) _ _ s
 refine wpAny_bind ?_;unfold Builtin.List.listItems;refine wpAny_bind (wpAny_seqItems hS rfl (wpAny_pure ?_));refine wpAny_bind (wpAny_updateSeq hS rfl ?_);have Qx:=Heap.get?_update_self (Obj.mapSeq (λ_=>(#[]:Array Value))) hS rfl
 have Yx:∀b o,b≠S->s.heap.get? b=some o->(s.heap.update S (Obj.mapSeq (λ_=>(#[]:Array Value)))).get? b=some o:=
  λb o hb e=>(Heap.get?_update_other _ _ (Ne.symm hb)).trans e
 refine wpAny_bind (wpAny_letGo ?_);refine Bb W hT S .none _ (W.frame 0 s _ s.toks kF (br _) λb hb o e=>Yx b o (λh=>CZ (h▸hb)) e) CZ hI Qx (λs' eM c' hm Ga yA=>?_) hn;exact hR s' eM c' (Moved.trans W.gtrans ((Moved.refl W.grefl).then_heap (br _) λb o hb e=>Yx b o (λh=>hb (h▸cw)) e) hm) Ga yA
theorem vi{E:Value->Shared->Prop}{Q:Value->Shared->Prop}(W:WalksS prog w A.in1.in1 I fp wr G n P St)(hT:∀i s,St i s->s.TypeIs (.ref I) "list_reverseiterator")(kF:St 0 s)(LO:∀b∈fp,b<s.heap.objs.size)(hI:I∈fp)
  (hQ:∀s' eM c',Moved (s.heap.objs.size::wr) G {s with heap:=s.heap.push {cls:= .type "list",data:= .seq #[]}} s'->
   s'.heap.get? s.heap.objs.size=some {cls:= .type "list",dict:=none,data:= .seq eM c',slots:= #[]}->ItemsOf P eM n->Q (.ref s.heap.objs.size) s') (hn:n<=sizeLine):
  wpAny (model prog w) A (call (.type "list") [.ref I]) Q E s:=by
 have CZ:s.heap.objs.size∉fp:=λhm=>gI _ (LO _ hm)
 refine callType_codes (Q₁:=λobj s₁=>obj= .ref s.heap.objs.size/\s₁={s with heap:=s.heap.push {cls:= .type "list",data:= .seq #[]}}) F.called_list (F.typeCall_list_1 _) F.entry_list_init
  (code_list_new _ ⟨rfl,rfl⟩) λobj s₁ Wi=>?_
 obtain⟨rfl,rfl⟩:=Wi;have hS:(s.heap.push {cls:= .type "list",data:= .seq #[]}).get? s.heap.objs.size=some {cls:= .type "list",data:= .seq #[]}:=Heap.get?_push_size _ rfl;refine⟨⟨_,hS,rfl⟩,F.args_list_init_2 _ _,vT W hT _ (W.frame 0 s _ s.toks kF (br _) λb _ o e=>Heap.get?_push_of_some _ e) CZ hI hS (λs' eM c' hm Ga yA=>?_) hn⟩;exact⟨rfl,hQ s' eM c' hm Ga yA⟩
end
end PySem
namespace L2
open PySem PySem.Spec PyProof.Rows
section
variable {X:Cx} {Z:DC} {a b c e:Expr} {ta te:aY} {t:gq} {pos:Pos}
def Hl(K:PySem.W.Frag)(ta:TA):TE:=λσ H Q=>ta σ H λvs H1=>∃l xs,vs= [.ref l]/\bX K H1 l xs/\∀q,H1 q=none->Q (.ref q) (upd H1 q (.lst xs.reverse))
theorem BO{ta:TA}{p p2 oW:Pos}(hc:X.calm=true)(QI:Gl X "list")(QP:X.mg "list"=none)(QJ:Gl X "reversed")(C7:X.mg "reversed"=none)(ha:PA X [a] ta)
  (hs:starEach [.Call (.Name "reversed" p2) [a] [] oW] X.env=(false,eval (.Call (.Name "reversed" p2) [a] [] oW) X.env)::starEach [] X.env:=by rfl) (eF:(backTo pos (starEach [] X.env)).any (·.1)=false:=by rfl)
  (gT:starEach [a] X.env=(false,eval a X.env)::starEach [] X.env:=by rfl) (I0:(backTo oW (starEach [] X.env)).any (·.1)=false:=by rfl):
  PE X (.Call (.Name "list" p) [.Call (.Name "reversed" p2) [a] [] oW] [] pos) (Hl X.K ta):=by
 intro pins s σ H Q I h;refine wpAny_Call_Name_kw (hU I QI QP kB ?_);refine PyProof.Rows.callWith_type1 ?_ hs eF;rw[hs];show wpAny _ _ (spliced ((false,eval _ X.env)::backTo pos (starEach [] X.env))) _ _ s;refine Calls.spliced_cons ?_;refine wpAny_Call_Name_kw (hU I QJ C7 zA ?_);refine PyProof.Rows.callWith_type1 (thn (ha oW pins s σ H _ I h) λus s1 ⟨vs,H1,I1,r1,q1⟩=>?_) gT I0;obtain⟨l,xs,e,hl,q⟩:=q1;subst e;obtain⟨u,rfl,ru⟩:=r1.one;subst ru;obtain⟨its,rv,p,hz⟩:=I1.list hl;have hlen:=rv.length;refine call_reversed_list p.isList ?_;refine Calls.spliced_nil ?_;have dZ:l<s1.heap.objs.size:=by obtain⟨o,ho,_⟩:=p.isList;exact Heap.lt_size ho
 have sO:l≠s1.heap.objs.size:=cH dZ;have W:=(Walks.listRev (prog:=X.prog) (w:=X.w) (A:=X.A.in1.in1) (I.ok.hd hc) s1.heap.objs.size l sO its.toArray).toS;have hit:(s1.heap.push (revObj l ((its.toArray.size:Int)-1))).IsRevIter s1.heap.objs.size l ((its.toArray.size:Int)-1-((0:Nat):Int)):=⟨_,Heap.get?_push_size _ rfl,rfl,by simp[revObj]⟩
 have QK:(s1.heap.push (revObj l ((its.toArray.size:Int)-1))).IsList l its.toArray:=p.isList.at λo e=>Heap.get?_push_of_some _ e;have zX:(s1.heap.push (revObj l ((its.toArray.size:Int)-1))).objs.size=s1.heap.objs.size+1:=by simp[Heap.push]
 refine vi W (λi s st=>st.2.1.typeIs) ⟨cI _,hit,QK⟩ (λb hb=>?_) (by simp) (λs' eM c' hm Ga yA=>?_) (by simpa [<-hlen] using hz)
 ·rw[show({s1 with heap:=s1.heap.push (revObj l ((its.toArray.size:Int)-1))}:Shared).heap.objs.size=s1.heap.objs.size+1 from zX]
  have hb:b=s1.heap.objs.size\/b=l:=by simpa using hb
  rcases hb with rfl|rfl
  ·exact Cv _
  ·exact Nat.lt_succ_of_lt dZ
 ·rw[Moved.eq_with hm]
  have kk:∀b o,s1.heap.get? b=some o->s'.heap.get? b=some o:=λb o e=>by
   have hb:=Heap.lt_size e;refine hm.heap b o (λyB=>?_) (Heap.get?_push_of_some _ (Heap.get?_push_of_some _ e));have yB:b=(s1.heap.push (revObj l ((its.toArray.size:Int)-1))).objs.size\/b=s1.heap.objs.size:=by simpa using yB
   rw[zX] at yB
   rcases yB with rfl|rfl
   ·exact absurd hb (Nat.not_lt.mpr (pE _))
   ·exact absurd hb (gI _)
  rw[show({s1 with heap:=s1.heap.push (revObj l ((its.toArray.size:Int)-1))}:Shared).heap.objs.size=s1.heap.objs.size+1 from zX] at Ga ⊢
  refine⟨.ref (s1.heap.objs.size+1),_,I1.laid kk (pE _) (o:= .lst xs.reverse) ⟨by rw[zr];exact hz,eM.toList,c',?_,by simpa using Ga⟩,rfl,q _ (I1.hok.fresh (pE _))⟩
  refine Vals.of_get (by simp[yA.1,hlen]) λk x w hx hw=>?_
  have hk:k<xs.length:=by
   have:=(cT.mp hx).1
   simpa using this
  rw[List.getElem?_reverse hk] at hx;obtain⟨u,hu,ru⟩:=rv.get hx
  have:its.toArray[its.toArray.size-1-k]? =some w:=yA.2 k w (by rw[<-jX];exact hw)
  have e2:its.toArray.size-1-k=xs.length-1-k:=by simp[hlen]
  rw[e2] at this
  have:u=w:=by
   have h1:its[xs.length-1-k]? =some w:=by simpa using this
   rw[hu] at h1;exact Option.some.inj h1
  rw[<-this];exact ru
def FO(t:gq):aY:=λρ P=>t ρ λds=>match ds with
 | [.lst l]=>P (.lst l.reverse)
 |_=>False
theorem tO{p p2 oW:Pos}(hc:X.calm=true)(QI:Gl X "list")(QP:X.mg "list"=none)(QJ:Gl X "reversed")(C7:X.mg "reversed"=none)(ha:DA Z X [a] t)
  (hs:starEach [.Call (.Name "reversed" p2) [a] [] oW] X.env=(false,eval (.Call (.Name "reversed" p2) [a] [] oW) X.env)::starEach [] X.env:=by rfl) (eF:(backTo pos (starEach [] X.env)).any (·.1)=false:=by rfl)
  (gT:starEach [a] X.env=(false,eval a X.env)::starEach [] X.env:=by rfl) (I0:(backTo oW (starEach [] X.env)).any (·.1)=false:=by rfl):
  DE Z X (.Call (.Name "list" p) [.Call (.Name "reversed" p2) [a] [] oW] [] pos) (FO t):=by
 refine(BO hc QI QP QJ C7 ha hs eF gT I0).imp ?_;rintro σ H Q ⟨G,ρ,P,s,en,h,q⟩;refine⟨G,ρ,_,s,en,h,λds hd vs G1 H1 x1 dv=>?_⟩;cases dv with
 |nil=>exact hd.elim
 |cons a as=>
  cases as with
  |cons _ _=>cases a<;>exact hd.elim
  |nil=>
   cases a<;>first|exact hd.elim|skip
   rename_i p xs ds ha e
   exact⟨_,xs,rfl,bX.of (x1.sub _ _ ha),λp hn=>q _ hd _ _ _ (x1.trans (.new x1.sub hn)) (.lst au (e.rev.mono (aV (x1.sub.free hn) _)))⟩
end
section
variable {Z:DC} {X:Cx} {md:List Nat} {rn:Nat} {a b e k:Expr} {pos:Pos} {ta tb te tk:aY} {t:gu}
def Vl(ta tb:aY):gu:=λρ P=>ta ρ λd1=>∃l1,d1= .lst l1/\tb ρ λd2=>∃l2,d2= .lst l2/\l1.length+l2.length<=sizeLine/\P (l1++l2)
theorem om(ha:DE Z X a ta)(hb:DE Z X b tb):DF Z X 1 (.BinOp a .Add b pos) (Vl ta tb):=by
 refine(wy qZ ha hb).imp ?_;intro σ H Q aL;rfl';obtain⟨G,ρ,P,s,e,h,q⟩:=aL;ac_rfl;refine⟨G,ρ,_,s,e,h,?_⟩;rintro _ ⟨l1,rfl,h⟩ v1 G1 H1 x1 sH;refine⟨G1,ρ,_,x1.sub,e.mono x1.gg,h,?_⟩;rintro _ ⟨l2,rfl,hz,hp⟩ v2 G2 H2 x2 qC;obtain⟨p1,Ho,rfl,h1,e1⟩:=sH.iq;obtain⟨p2,xs2,rfl,h2,e2⟩:=qC.iq;have Qf:=e1.mono x2.gg;have x:=x1.trans x2;refine⟨_,_,_,_,rfl,rfl,x2.hh _ _ (x1.sub _ _ h1),x2.sub _ _ h2,by rw[e1.length,e2.length];exact hz,λp gJ=>?_⟩
 obtain⟨o1,o2,o3⟩:=rb x gJ (Qf.append e2);exact q _ hp _ _ _ _ (x.side gJ) o1 o2 o3
variable {tg iter elt:Expr} {ifs:List Expr} {scope:Scope} {NC:List Str} {src:List (Option Nat)} {wi:iM} {g:fi} {tt:dJ}
theorem Ig(hc:X.calm=true)(c:cE X scope)(fH:dR scope X.N src NC)(hi:DI Z X tg iter wi)
  (hg:∀ex s H,DG Z (dA X scope NC ex s H) tg g) (ht:∀ex s H,AB Z (dA X scope NC ex s H) ifs tt) (he:∀ex s H,DE Z (dA X scope NC ex s H) elt te)
  (hs:∀x,foldedSetIterable iter X.env x=pure x:=by intro _;rfl):DF Z X 1 (.ListComp elt [⟨tg,iter,ifs,0⟩] scope pos) (Qk wi g tt te src):=(JY hc c fH hi hg ht he hs).imp Bx
variable {B:Bs} {ρ:DN} {σ:St} {H G:Hp} {fp:Nat->List Addr}
theorem SIx.evF{P:List D->Prop}{Q:VK}(S:SIx Z B md ρ σ H G fp)(h:t ρ P)
  (hq:∀ds,P ds->ds.all df=true/\∀v G' H',SIx Z B md ρ σ H' G' fp->Ext G H G' H'->Dv Z G' v (.lst ds)->Q v H'):z9 Z 1 t σ H Q:=by
 refine⟨H,ρ,P, .refl _,S.A8,h,?_⟩;intro ds hd v f G' H' x o nd nw;obtain⟨QE,k⟩:=hq ds hd;obtain⟨a,xs,fM,cC,rfl,e1,ha,QD,ol⟩:=o.lst;cases e1;obtain⟨dv,rfl⟩:=ol.flat;have hb:H a=none:=(nw a (by rw[QD];simp)).1
 have hg:G a=none:=S.ex.sub.free hb
 have x2:Ext G H (upd G a (.lst xs)) H':=by
  refine⟨aV hg _,λb o e=>?_,x.hh,λb h1 h2=>?_⟩
  ·by_cases z:b=a
   ·subst z
    rw[au] at e;rw[<-e];exact ha
   ·rw[aw z] at e
    exact x.hh _ _ (S.ex.sub _ _ e)
  ·rw[aw (λz=>h1 (by rw[z];exact hb))];exact h2
 exact k _ _ _ (S.grow x2) x2 (.lst au (dv.flat QE))
def HZ(i:Nat)(tk:aY)(t:gu):cx:=λE ρ=>t ρ λd=>d.all df=true/\∃ds,ρ[i]? =some (some (.lst ds))/\tk ρ λkk=>∃k j,kk= .int k/\jD ds.length k=some j/\E.nx (ρ.set i (some (.lst (ds.set j (.lst d)))))
theorem gQ(i:Nat){x:Str}{px ps:Pos}(hk:DE Z X k tk)(he:DF Z X 1 e t)(hm:md.getD i 0=1:=by rfl)(hi:X.N[i]? =some x:=by rfl)(hv:j5 X.env.scope x:=by first|exact Or.inl rfl|exact Or.inr (Or.inl rfl) |exact Or.inr (Or.inr rfl))(hd:(x==("__debug__":Str))=false:=by decide)(dh:(x==("__classdict__":Str))=false:=by decide)
  (ha:∀v,assign (.Subscript (.Name x px) k ps) X.env v=(do
   let ov <-holding [v] (eval (.Name x px) X.env)
   let iv <-holding [v,ov] (eval k X.env)
   standAt ps
   holding [v,ov,iv] (setItem ov iv v)
   release [v,ov,iv] []):=by intro _;rfl)
  (hs:swapsWithSole [.Subscript (.Name x px) k ps] e pos.line X.env=pure false:=by rfl) (hw:swappedStores [.Subscript (.Name x px) k ps] e X.env=pure none:=by rfl)
  (h1:(assignEach [.Subscript (.Name x px) k ps] X.env).map (·.2)= [assign (.Subscript (.Name x px) k ps) X.env]:=by rfl):DSt Z X md rn (.Assign [.Subscript (.Name x px) k ps] e pos) (HZ i tk t):=by
 refine(oJ he (rz (pv i hi hv hd dh) hk set_list ha) hs hw h1).imp ?_;intro D σ H aL;rfl';obtain⟨B,ρ,E,⟨G,fp,S⟩,h,M⟩:=aL;ac_rfl;refine S.evF h λd hd=>⟨hd.1,λv G' H' S' x dv=>?_⟩;rfl';obtain⟨_,ds,h1,h⟩:=hd;obtain⟨l,xs,_,_,e2,e3,_⟩:=S'.one hm h1;ac_rfl;refine⟨_,e2,S'.ev true h ?_⟩;rintro _ ⟨k,j,rfl,hj,h3⟩;refine⟨rfl,λv1 G1 H1 S1 x1 sH=>?_⟩;rfl';cases sH.ofInt;obtain⟨l',g7,fM,e1,ig,zJ,bu,put⟩:=S1.one hm h1;cases e1;ac_rfl;rw[e2] at ig;cases ig;exact⟨l,g7,k,j,rfl,rfl,zJ,by rw[bu.length];exact hj,M.nx _ h3 _ _ ⟨G1,fp,put _ _ (bu.set (dv.mono x1.gg) j)⟩⟩
end
end L2
namespace lg
open PySem L2 Wb
def top(i:Nat):Stmt:=PySem.Challenge.pw_mapdye_k67_whole_wheels_and_search.main.body.getD i (.Pass ⟨0,0,0,0⟩)
abbrev ku:Stmt:=top 12
abbrev nB:Stmt:=top 13
abbrev wC:Stmt:=top 14
abbrev nA:Stmt:=top 15
abbrev kr:Stmt:=top 16
abbrev jy:Stmt:=top 17
abbrev fQ:Stmt:=top 19
abbrev fE:Stmt:=top 20
abbrev kz:Stmt:=top 21
abbrev nz:Stmt:=top 24
abbrev jv:Stmt:=top 25
abbrev kv:Stmt:=top 26
abbrev jz:Stmt:=top 27
abbrev ko:Stmt:=top 28
abbrev dr:Stmt:=top 29
abbrev jw:Stmt:=top 30
abbrev jx:Stmt:=top 31
abbrev iB:Stmt:=top 33
abbrev gB:Stmt:=top 36
abbrev nE:Stmt:=top 37
abbrev fV:Stmt:=top 38
abbrev gZ:Stmt:=top 39
abbrev jQ:Stmt:=top 40
abbrev kn:Stmt:=top 41
abbrev gY:Stmt:=top 42
abbrev jP:Stmt:=top 43
abbrev iA:Stmt:=top 45
abbrev kg:Stmt:=top 46
abbrev kh:Stmt:=top 47
abbrev jt:Stmt:=top 48
abbrev ke:Stmt:=top 49
abbrev js:Stmt:=top 50
abbrev fL:Stmt:=top 51
abbrev km:Stmt:=top 52
abbrev lM:Stmt:=top 53
abbrev fP:Stmt:=top 54
abbrev jO:Stmt:=top 55
abbrev iR:Stmt:=top 56
abbrev ju:Stmt:=top 57
abbrev kj:Stmt:=top 58
abbrev Aq:Stmt:=top 59
abbrev fb:Stmt:=L2.iW (top 32) 0
abbrev nv:Stmt:=L2.iW (top 32) 1
abbrev iQ:Stmt:=L2.iW (top 32) 2
abbrev jN:Stmt:=L2.iW (top 32) 3
abbrev tZ:Stmt:=L2.iW (top 32) 4
abbrev kd:Stmt:=L2.iW (top 32) 5
theorem nQ:aB ["web","side","sides","p","q"] ["web","side"] (aq ku):=⟨rfl,rfl,rfl,by decide+kernel,rfl,by decide+kernel,by decide+kernel⟩
theorem zb:aB ["web","walked","told","side","sides","step"] ["web"] (aq nB):=⟨rfl,rfl,rfl,by decide+kernel,rfl,by decide+kernel,by decide+kernel⟩
theorem za:aB ["web"] ["web"] (aq wC):=⟨rfl,rfl,rfl,by decide+kernel,rfl,by decide+kernel,by decide+kernel⟩
theorem rO:aB ["web","points","ties","rounds"] ["web"] (aq nA):=⟨rfl,rfl,rfl,by decide+kernel,rfl,by decide+kernel,by decide+kernel⟩
theorem nP:aB ["web"] ["web"] (aq kr):=⟨rfl,rfl,rfl,by decide+kernel,rfl,by decide+kernel,by decide+kernel⟩
theorem my:aB ["web","rim","number","land"] ["web","rim"] (aq jy):=⟨rfl,rfl,rfl,by decide+kernel,rfl,by decide+kernel,by decide+kernel⟩
theorem nU:aB ["dyeing","land","bare"] ["dyeing","land"] (aq fQ):=⟨rfl,rfl,rfl,by decide+kernel,rfl,by decide+kernel,by decide+kernel⟩
theorem jR:aB ["web","told","dyeing","dye","p","land"] ["web"] (aq fE):=⟨rfl,rfl,rfl,by decide+kernel,rfl,by decide+kernel,by decide+kernel⟩
theorem nV:aB ["web","p","row"] ["web"] (aq kz):=⟨rfl,rfl,rfl,by decide+kernel,rfl,by decide+kernel,by decide+kernel⟩
theorem rM:aB ["thing","many"] ["thing","many"] (aq nz):=⟨rfl,rfl,rfl,by decide+kernel,rfl,by decide+kernel,by decide+kernel⟩
theorem mm:aB ["rows","p","row","q"] ["rows"] (aq jv):=⟨rfl,rfl,rfl,by decide+kernel,rfl,by decide+kernel,by decide+kernel⟩
theorem nS:aB ["rows","p","row"] ["rows"] (aq kv):=⟨rfl,rfl,rfl,by decide+kernel,rfl,by decide+kernel,by decide+kernel⟩
theorem mz:aB ["rows","p","row","place","q"] ["rows"] (aq jz):=⟨rfl,rfl,rfl,by decide+kernel,rfl,by decide+kernel,by decide+kernel⟩
theorem nO:aB ["rows","p","row","q"] ["rows"] (aq ko):=⟨rfl,rfl,rfl,by decide+kernel,rfl,by decide+kernel,by decide+kernel⟩
theorem gD:aB ["rows","reached","waiting","p","q"] ["rows"] (aq dr):=⟨rfl,rfl,rfl,by decide+kernel,rfl,by decide+kernel,by decide+kernel⟩
theorem mr:aB ["rows","q","reached"] ["rows"] (aq jw):=⟨rfl,rfl,rfl,by decide+kernel,rfl,by decide+kernel,by decide+kernel⟩
theorem mw:aB ["rows","fault"] ["rows"] (aq jx):=⟨rfl,rfl,rfl,by decide+kernel,rfl,by decide+kernel,by decide+kernel⟩
theorem kQ:aB ["web","most"] ["web","most"] (aq iB):=⟨rfl,rfl,rfl,by decide+kernel,rfl,by decide+kernel,by decide+kernel⟩
theorem o9:aB ["turns","lists","dyeing","p","taken"] ["turns","lists","dyeing","p"] (aq gB):=⟨rfl,rfl,rfl,by decide+kernel,rfl,by decide+kernel,by decide+kernel⟩
theorem rQ:aB ["dyeing","p","dye"] ["dyeing","p","dye"] (aq nE):=⟨rfl,rfl,rfl,by decide+kernel,rfl,by decide+kernel,by decide+kernel⟩
theorem kP:aB ["turns","lists","dyeing","counts"] ["turns","lists","dyeing"] (aq fV):=⟨rfl,rfl,rfl,by decide+kernel,rfl,by decide+kernel,by decide+kernel⟩
theorem jT:aB ["turns","lists","dyeing","p","left","papers","dye","told"] ["turns","lists","dyeing"] (aq gZ):=⟨rfl,rfl,rfl,by decide+kernel,rfl,by decide+kernel,by decide+kernel⟩
theorem rP:aB ["web","lists"] ["web","lists"] (aq jQ):=⟨rfl,rfl,rfl,by decide+kernel,rfl,by decide+kernel,by decide+kernel⟩
theorem nN:aB ["turns","lists","dyeing","p","papers","left","dye","paper"] ["turns","lists","dyeing","p","papers"] (aq kn):=⟨rfl,rfl,rfl,by decide+kernel,rfl,by decide+kernel,by decide+kernel⟩
theorem jS:aB ["turns","lists","dyeing","paper","word","p"] ["turns","lists","dyeing","paper"] (aq gY):=⟨rfl,rfl,rfl,by decide+kernel,rfl,by decide+kernel,by decide+kernel⟩
theorem rN:aB ["web","lists","paper"] ["web","lists","paper"] (aq jP):=⟨rfl,rfl,rfl,by decide+kernel,rfl,by decide+kernel,by decide+kernel⟩
theorem kO:aB ["_law_script","_law_k"] ["_law_script","_law_k"] (aq iA):=⟨rfl,rfl,rfl,by decide+kernel,rfl,by decide+kernel,by decide+kernel⟩
theorem nH:aB ["_law_cell","_law_mixed"] ["_law_cell"] (aq kg):=⟨rfl,rfl,rfl,by decide+kernel,rfl,by decide+kernel,by decide+kernel⟩
theorem nI:aB ["_law_number","_law_least","_law_turns","_law_ring","_law_many","_law_point","_law_at","_law_far","_law_arc","_law_other"] ["_law_number","_law_least"] (aq kh):=⟨rfl,rfl,rfl,by decide+kernel,rfl,by decide+kernel,by decide+kernel⟩
theorem mj:aB ["_law_turns","_law_ring","_law_point","_law_other"] ["_law_turns","_law_ring"] (aq jt):=⟨rfl,rfl,rfl,by decide+kernel,rfl,by decide+kernel,by decide+kernel⟩
theorem nG:aB ["_law_row","_law_thing","_law_things","_law_at"] ["_law_row","_law_thing","_law_things"] (aq ke):=⟨rfl,rfl,rfl,by decide+kernel,rfl,by decide+kernel,by decide+kernel⟩
theorem mh:aB ["_law_row","_law_thing"] ["_law_row","_law_thing"] (aq js):=⟨rfl,rfl,rfl,by decide+kernel,rfl,by decide+kernel,by decide+kernel⟩
theorem ic:aB ["_law_turns","_law_a","_law_b","_law_c","_law_x"] ["_law_turns","_law_a","_law_b"] (aq fL):=⟨rfl,rfl,rfl,by decide+kernel,rfl,by decide+kernel,by decide+kernel⟩
theorem nM:aB ["_law_turns","_law_a","_law_b","_law_x","_law_y","_law_u"] ["_law_turns","_law_a","_law_b"] (aq km):=⟨rfl,rfl,rfl,by decide+kernel,rfl,by decide+kernel,by decide+kernel⟩
theorem oZ:aB ["_law_number","_law_most","_law_turns","_law_further","_law_a","_law_b"] ["_law_number","_law_most"] (aq lM):=⟨rfl,rfl,rfl,by decide+kernel,rfl,by decide+kernel,by decide+kernel⟩
theorem nK:aB ["_law_turns","_law_number","_law_names","_law_k","_law_found","_law_row","_law_at"] ["_law_turns","_law_number"] (aq fP):=⟨rfl,rfl,rfl,by decide+kernel,rfl,by decide+kernel,by decide+kernel⟩
theorem rL:aB ["_law_turns"] ["_law_turns"] (aq jO):=⟨rfl,rfl,rfl,by decide+kernel,rfl,by decide+kernel,by decide+kernel⟩
theorem oY:aB ["_law_turns","_law_lists_here","_law_told","_law_point","_law_row"] ["_law_turns","_law_lists_here","_law_told"] (aq iR):=⟨rfl,rfl,rfl,by decide+kernel,rfl,by decide+kernel,by decide+kernel⟩
theorem ml:aB ["_law_script","_law_number","_law_turns","_law_ring"] ["_law_script"] (aq ju):=⟨rfl,rfl,rfl,by decide+kernel,rfl,by decide+kernel,by decide+kernel⟩
theorem nJ:aB ["_law_many","_law_number","_law_found","_law_point","_law_row"] ["_law_many","_law_number"] (aq kj):=⟨rfl,rfl,rfl,by decide+kernel,rfl,by decide+kernel,by decide+kernel⟩
theorem Fo:aB ["_law_script","_law_turns","_law_many","_law_number","_law_lists_here","_law_point","_law_web_here","_law_told","_law_found"] ["_law_script"] (aq Aq):=⟨rfl,rfl,rfl,by decide+kernel,rfl,by decide+kernel,by decide+kernel⟩
theorem kN:aB ["self","turns","rows","fault"] ["self","turns"] (aq fb):=⟨rfl,rfl,rfl,by decide+kernel,rfl,by decide+kernel,by decide+kernel⟩
theorem rJ:aB ["self"] ["self"] (aq nv):=⟨rfl,rfl,rfl,by decide+kernel,rfl,by decide+kernel,by decide+kernel⟩
theorem oX:aB ["self"] ["self"] (aq iQ):=⟨rfl,rfl,rfl,by decide+kernel,rfl,by decide+kernel,by decide+kernel⟩
theorem rK:aB ["self"] ["self"] (aq jN):=⟨rfl,rfl,rfl,by decide+kernel,rfl,by decide+kernel,by decide+kernel⟩
theorem nF:aB ["self","p","q","row"] ["self","p","q"] (aq kd):=⟨rfl,rfl,rfl,by decide+kernel,rfl,by decide+kernel,by decide+kernel⟩
set_option genInjectivity false in
structure Txt (Z:DC) (mg:Str->Option Value) where
 B:Sa mg
 x_set:mg "set"=none
 d_round_from:cV Z.K mg "round_from" ku ["web","side"]
 d_lands:cV Z.K mg "lands" nB ["web"]
 d_count:cV Z.K mg "count" wC ["web"]
 d_is_plane:cV Z.K mg "is_plane" nA ["web"]
 d_need_plane:cV Z.K mg "need_plane" kr ["web"]
 d_need_filled:cV Z.K mg "need_filled" jy ["web","rim"]
 d_third_dyed:cV Z.K mg "third_dyed" fQ ["dyeing","land"]
 d_dyed_by_lands:cV Z.K mg "dyed_by_lands" fE ["web"]
 d_three_dyes:cV Z.K mg "three_dyes" kz ["web"]
 d_is_among:cV Z.K mg "is_among" nz ["thing","many"]
 d_alien_fault:cV Z.K mg "alien_fault" jv ["rows"]
 d_self_fault:cV Z.K mg "self_fault" kv ["rows"]
 d_twice_fault:cV Z.K mg "twice_fault" jz ["rows"]
 d_lone_fault:cV Z.K mg "lone_fault" ko ["rows"]
 d_reached_from_first:cV Z.K mg "reached_from_first" dr ["rows"]
 d_apart_fault:cV Z.K mg "apart_fault" jw ["rows"]
 d_first_fault:cV Z.K mg "first_fault" jx ["rows"]
 d_need_at_most:cV Z.K mg "need_at_most" iB ["web","most"]
 d_dyes_left:cV Z.K mg "dyes_left" gB ["turns","lists","dyeing","p"]
 d_with_dye:cV Z.K mg "with_dye" nE ["dyeing","p","dye"]
 d_chosen_point:cV Z.K mg "chosen_point" fV ["turns","lists","dyeing"]
 d_searched_from:cV Z.K mg "searched_from" gZ ["turns","lists","dyeing"]
 d_searched:cV Z.K mg "searched" jQ ["web","lists"]
 d_are_papers:cV Z.K mg "are_papers" kn ["turns","lists","dyeing","p","papers"]
 d_is_paper_from:cV Z.K mg "is_paper_from" gY ["turns","lists","dyeing","paper"]
 d_is_paper:cV Z.K mg "is_paper" jP ["web","lists","paper"]
 d__law_cell_at:cV Z.K mg "_law_cell_at" iA ["_law_script","_law_k"]
 d__law_drawn:cV Z.K mg "_law_drawn" kg ["_law_cell"]
 d__law_grown:cV Z.K mg "_law_grown" kh ["_law_number","_law_least"]
 d__law_closed:cV Z.K mg "_law_closed" jt ["_law_turns","_law_ring"]
 d__law_after:cV Z.K mg "_law_after" ke ["_law_row","_law_thing","_law_things"]
 d__law_behind:cV Z.K mg "_law_behind" js ["_law_row","_law_thing"]
 d__law_eight_faced:cV Z.K mg "_law_eight_faced" fL ["_law_turns","_law_a","_law_b"]
 d__law_split:cV Z.K mg "_law_split" km ["_law_turns","_law_a","_law_b"]
 d__law_even:cV Z.K mg "_law_even" lM ["_law_number","_law_most"]
 d__law_named:cV Z.K mg "_law_named" fP ["_law_turns","_law_number"]
 d__law_web:cV Z.K mg "_law_web" jO ["_law_turns"]
 d__law_dyed:cV Z.K mg "_law_dyed" iR ["_law_turns","_law_lists_here","_law_told"]
 d__law_filled:cV Z.K mg "_law_filled" ju ["_law_script"]
 d__law_lists:cV Z.K mg "_law_lists" kj ["_law_many","_law_number"]
 d_law:cV Z.K mg "law" Aq ["_law_script"]
 W:EE Z
 mC:mg "Web"=some (.ref Z.C)
 i_f:Addr
 i_fd:FuncData
 i_F:uZ Z.K "__init__" "Web.__init__" fb i_f i_fd
 mkW:Mk Z.K Z.C i_f
 m___init__b:Binds Z.K i_fd ["self","turns"] []
 m_many:Cz Z "many" "Web.many" nv ["self"]
 m_turns:Cz Z "turns" "Web.turns" iQ ["self"]
 m_ties:Cz Z "ties" "Web.ties" jN ["self"]
 m_tied:Cz Z "tied" "Web.tied" tZ ["self","a","b"]
 m_behind:Cz Z "behind" "Web.behind" kd ["self","p","q"]
 t___name__:∃tk,mg "__name__"=some (.str "law_mapdye_k67_whole_wheels_and_search" tk)
 c_MOST_POINTS:∃tk,mg "MOST_POINTS"=some (.int 14 tk)
 c_MOST_SEARCHED:∃tk,mg "MOST_SEARCHED"=some (.int 8 tk)
variable {P:Program} {w:World} {mg:Str->Option Value} {base:Heap} {Z:DC} (T:Txt Z mg)
def Kt:bP:=λds P=>∃(i n:Int),ds= [.int i, .int n]/\P (.bl (decide (0<=i/\i<n)))
theorem qV:FnOk P w Z.K mg base bB 1 T.d_is_among.f T.d_is_among.fd ["thing","many"] (aF Z Kt):=by
 have nd:=rM.nd;refine aP T.d_is_among.F rM [0,0] (by decide) (λds R h=>by obtain⟨_,_,rfl,_⟩:=h;rfl) (λbc A outer s H E ds R hr h=>?_)
 have hu:=hr.units;refine⟨_,(ai (aE (uK (lC "int" (aa 0) rfl T.B.isinstance rfl T.B.int EH) (uK (Lx (lC "bool" (aa 0) rfl T.B.isinstance rfl T.B.bool AL)) (zH (FU v7 Ae ao (aa 0) (aa 1))))))),?_⟩;obtain⟨i,n,rfl,q⟩:=h;refine⟨_,rfl,rfl,true,rfl,b9 ⟨_,rfl,rfl,false,rfl,true,rfl,b9 ⟨_,rfl,?_⟩⟩⟩;refine⟨_,rfl,bN (λh0=>⟨_,rfl,?_⟩) (λh0=>?_)⟩
 ·have h0:0<=i:=of_decide_eq_true h0
  show R (.bl (decide (i<n)));rw[show decide (i<n)=decide (0<=i/\i<n) by simp[h0]]
  exact q
 ·have h0:¬0<=i:=of_decide_eq_false h0
  rw[show decide (0<=i/\i<n)=false by simp[h0]] at q
  exact q
def uV:bP:=λds P=>∃(w:W),ds= [ay w]/\yb w/\1<=w.length/\w.length<=14/\P .aZ
theorem wR{w:W}{j:Nat}{d:D}(h:(fv (w.map av))[j]? =some d):j<w.length/\d= .tup [.int (j:Int),av (row w j)]:=by
 obtain⟨x,hx,rfl⟩:=f9 h;obtain⟨r,hr,rfl⟩:=bZ hx;have hj:j<w.length:=(cT.mp hr).1;refine⟨hj,?_⟩;rw[Fm hr]
theorem ux:FnOk P w Z.K mg base bB 2 T.d_alien_fault.f T.d_alien_fault.fd ["rows"] (aF Z uV):=by
 have nd:=mm.nd;refine aP T.d_alien_fault.F mm [0,0,0,0] (by decide) (λds R h=>by obtain⟨_,rfl,_⟩:=h;rfl) (λbc A outer s H E ds R hr h=>?_)
 have hu:=hr.units
 refine⟨_,(af (cu rfl PassesOwn.never (eC rfl T.B.enumerate (ab (aa 0) ae)) (eu 2 rfl (aN (aG 1 nd) (aN (aG 2 nd) b7))) (ai (cu rfl PassesOwn.never (bG (aa 2)) (aG 3 nd) (ai (bh (fS (eU (ax T.d_is_among (qV T) hr (ab (aa 3) (ab (aA aX rfl T.B.len aW (ab (aa 0) ae)) ae))))) (ai (aE (cG (ab dj (ab (aa 1) (ab (aa 3) ae)))))) aO)))))
   (ai (aE cg))),?_⟩
 obtain⟨w',rfl,g,h1,gb,q⟩:=h;refine⟨_,rfl,bJ (λ_ ρ=>∃o1 o2 o3,ρ= [some (ay w'),o1,o2,o3]) ⟨_,_,_,rfl⟩ ?_ ?_⟩
 ·rintro j d _ hd ⟨o1,o2,o3,rfl⟩ A hA
  obtain⟨hj,rfl⟩:=wR hd;refine⟨rfl,rfl,?_⟩;refine⟨_,rfl,bJ (λ_ ρ=>∃o3,ρ= [some (ay w'),some (.int (j:Int)),some (av (row w' j)),o3]) ⟨_,rfl⟩ ?_ ?_⟩
  ·rintro k d' _ hk ⟨o4,rfl⟩ A' zT
   obtain⟨x,hx,rfl⟩:=bZ hk;refine⟨_,rfl,_,rfl,_,_,rfl,⟨rfl,?_⟩⟩;have dZ:x<w'.length:=g.rng _ _ (eS hx);rw[show decide ((0:Int)<=(x:Int)/\(x:Int)<((w'.map av).length:Int))=true by simp;omega]
   exact bH (zT _ ⟨_,rfl⟩)
  ·rintro _ ⟨o4,rfl⟩
   exact hA _ ⟨_,_,_,rfl⟩
 ·rintro _ ⟨o1,o2,o3,rfl⟩
  exact q
theorem we:FnOk P w Z.K mg base bB 1 T.d_self_fault.f T.d_self_fault.fd ["rows"] (aF Z uV):=by
 have nd:=nS.nd;refine aP T.d_self_fault.F nS [0,0,0] (by decide) (λds R h=>by obtain⟨_,rfl,_⟩:=h;rfl) (λbc A outer s H E ds R hr h=>?_)
 have hu:=hr.units
 refine⟨_,(af (cu rfl PassesOwn.never (eC rfl T.B.enumerate (ab (aa 0) ae)) (eu 2 rfl (aN (aG 1 nd) (aN (aG 2 nd) b7))) (ai (bh (aK v5 (aa 1) (aa 2) (by with_unfolding_all rfl)) (ai (aE (cG (ab dj (ab (aa 1) (ab (aa 1) ae)))))) aO)))
   (ai (aE cg))),?_⟩
 obtain⟨w',rfl,g,h1,gb,q⟩:=h;refine⟨_,rfl,bJ (λ_ ρ=>∃o1 o2,ρ= [some (ay w'),o1,o2]) ⟨_,_,rfl⟩ ?_ ?_⟩
 ·rintro j d _ hd ⟨o1,o2,rfl⟩ A hA
  obtain⟨hj,rfl⟩:=wR hd;refine⟨rfl,rfl,?_⟩;refine⟨_,rfl,_,rfl,rfl,bQ _,_,rfl,?_⟩
  have e:inD (.int (j:Int)) ((row w' j).map ag)=false:=by
   have:=vL (r:=row w' j) (p:=j)
   rw[decide_eq_false (g.irr j)] at this;exact this
  rw[if_neg cB,e];exact bH (hA _ ⟨_,_,rfl⟩)
 ·rintro _ ⟨o1,o2,rfl⟩
  exact q
theorem fZ{α:Type}(l:List α)(k:Nat)(h:k<=l.length):cutD l none (some (k:Int))=l.take k:=by
 unfold cutD;have e1:HT.bD l.length 0 none=0:=rfl
 have e2:HT.bD l.length l.length (some (k:Int))=k:=by
  simp only[HT.bD]
  split<;>omega
 rw[e1,e2];simp
theorem uA:FnOk P w Z.K mg base bB 1 T.d_twice_fault.f T.d_twice_fault.fd ["rows"] (aF Z uV):=by
 have nd:=mz.nd;refine aP T.d_twice_fault.F mz [0,0,0,0,0] (by decide) (λds R h=>by obtain⟨_,rfl,_⟩:=h;rfl) (λbc A outer s H E ds R hr h=>?_)
 have hu:=hr.units
 refine⟨_,(af (cu rfl PassesOwn.never (eC rfl T.B.enumerate (ab (aa 0) ae)) (eu 2 rfl (aN (aG 1 nd) (aN (aG 2 nd) b7))) (ai (cu rfl PassesOwn.never (eC rfl T.B.enumerate (ab (aa 2) ae)) (eu 2 rfl (aN (aG 3 nd) (aN (aG 4 nd) b7))) (ai (bh (aK v5 (aa 4) (cR (aa 2) cX (cY (aa 3))) (by with_unfolding_all rfl)) (ai (aE (cG (ab dj (ab (aa 1) (ab (aa 4) ae)))))) aO)))))
   (ai (aE cg))),?_⟩
 obtain⟨w',rfl,g,h1,gb,q⟩:=h;refine⟨_,rfl,bJ (λ_ ρ=>∃o1 o2 o3 o4,ρ= [some (ay w'),o1,o2,o3,o4]) ⟨_,_,_,_,rfl⟩ ?_ ?_⟩
 ·rintro j d _ hd ⟨o1,o2,o3,o4,rfl⟩ A hA
  obtain⟨hj,rfl⟩:=wR hd;refine⟨rfl,rfl,?_⟩;refine⟨_,rfl,bJ (λ_ ρ=>∃o3 o4,ρ= [some (ay w'),some (.int (j:Int)),some (av (row w' j)),o3,o4]) ⟨_,_,rfl⟩ ?_ ?_⟩
  ·rintro k d' _ hk ⟨o5,o6,rfl⟩ A' zT
   obtain⟨y,hy,rfl⟩:=f9 hk;obtain⟨x,hx,rfl⟩:=bZ hy;have gS:k<(row w' j).length:=(cT.mp hx).1;refine⟨rfl,rfl,?_⟩;refine⟨_,rfl,_,rfl,_,rfl,?_⟩;have ec:cutD ((row w' j).map ag) none (some (k:Int))=((row w' j).take k).map ag:=by rw[fZ _ _ (by simp;omega),r9]
   refine(?_:Lp false (ag x) (.lst (cutD ((row w' j).map ag) none (some (k:Int)))) _);rw[ec];refine⟨rfl,bQ _,_,rfl,?_⟩
   have e:inD (ag x) (((row w' j).take k).map ag)=false:=by
    rw[vL,decide_eq_false];intro z;obtain⟨m,hm⟩:=pA z
    have mI:m<k:=by
     have:=(cT.mp hm).1
     rw[fj] at this;omega
    rw[w9 mI] at hm;exact absurd ((List.getElem?_inj (by omega) (g.nod j)).mp (hm.trans hx.symm)) (by omega)
   rw[if_neg cB,e];exact bH (zT _ ⟨_,_,rfl⟩)
  ·rintro _ ⟨o5,o6,rfl⟩
   exact hA _ ⟨_,_,_,_,rfl⟩
 ·rintro _ ⟨o1,o2,o3,o4,rfl⟩
  exact q
theorem wa:FnOk P w Z.K mg base bB 1 T.d_lone_fault.f T.d_lone_fault.fd ["rows"] (aF Z uV):=by
 have nd:=nO.nd;refine aP T.d_lone_fault.F nO [0,0,0,0] (by decide) (λds R h=>by obtain⟨_,rfl,_⟩:=h;rfl) (λbc A outer s H E ds R hr h=>?_)
 have hu:=hr.units
 refine⟨_,(af (cu rfl PassesOwn.never (eC rfl T.B.enumerate (ab (aa 0) ae)) (eu 2 rfl (aN (aG 1 nd) (aN (aG 2 nd) b7))) (ai (cu rfl PassesOwn.never (bG (aa 2)) (aG 3 nd) (ai (bh (aK kK (aa 1) (aJ (aa 0) (aa 3)) (by with_unfolding_all rfl)) (ai (aE (cG (ab dj (ab (aa 1) (ab (aa 3) ae)))))) aO)))))
   (ai (aE cg))),?_⟩
 obtain⟨w',rfl,g,h1,gb,q⟩:=h;refine⟨_,rfl,bJ (λ_ ρ=>∃o1 o2 o3,ρ= [some (ay w'),o1,o2,o3]) ⟨_,_,_,rfl⟩ ?_ ?_⟩
 ·rintro j d _ hd ⟨o1,o2,o3,rfl⟩ A hA
  obtain⟨hj,rfl⟩:=wR hd;refine⟨rfl,rfl,?_⟩;refine⟨_,rfl,bJ (λ_ ρ=>∃o3,ρ= [some (ay w'),some (.int (j:Int)),some (av (row w' j)),o3]) ⟨_,rfl⟩ ?_ ?_⟩
  ·rintro k d' _ hk ⟨o4,rfl⟩ A' zT
   obtain⟨x,hx,rfl⟩:=bZ hk;have Wd:=eS hx;have dZ:x<w'.length:=g.rng _ _ Wd;refine⟨_,rfl,_,rfl,_,rfl,_,bC (kU dZ),rfl,bQ _,_,rfl,?_⟩
   have e:inD (.int (j:Int)) ((row w' x).map ag)=true:=by
    have:=vL (r:=row w' x) (p:=j)
    rw[decide_eq_true (g.sym _ _ Wd)] at this;exact this
   rw[if_pos rfl,e];exact bH (zT _ ⟨_,rfl⟩)
  ·rintro _ ⟨o4,rfl⟩
   exact hA _ ⟨_,_,_,rfl⟩
 ·rintro _ ⟨o1,o2,o3,rfl⟩
  exact q
def uj(bs:List Bool):List D:=bs.map D.bl
theorem HN{bs:List Bool}{i:Nat}{b:Bool}(h:bs[i]? =some b):(uj bs)[i]? =some (.bl b):=by unfold uj;rw[cL,h];rfl
theorem AO(bs:List Bool)(i:Nat)(b:Bool):(uj bs).set i (.bl b)=uj (bs.set i b):=by unfold uj;rw[xp]
theorem AN(bs:List Bool):(uj bs).length=bs.length:=aI _
theorem bU{n k:Nat}(h:k<n):jD n (k:Int)=some k:=by unfold jD;rw[if_pos (by omega),if_pos (by omega)];simp
def Eg:bP:=λds P=>∃(w:W),ds= [ay w]/\yb w/\1<=w.length/\w.length<=14/\∀bs m,RI w bs [] [] m->(∀x,bs[x]? =some true->Reach w 0 x)->P (.lst (uj bs))
def Met(w:W)(bs:List Bool):Prop:=∀x,bs[x]? =some true->Reach w 0 x
theorem lI:FnOk P w Z.K mg base bB 1 T.d_reached_from_first.f T.d_reached_from_first.fd ["rows"] (aF Z Eg):=by
 have nd:=gD.nd;refine aP T.d_reached_from_first.F gD [0,1,1,0,0] (by decide) (λds R h=>by obtain⟨_,rfl,_⟩:=h;rfl) (λbc A outer s H E ds R hr h=>?_)
 have hu:=hr.units
 refine⟨_,(af (sE 1 (NC:= ["row"]) (src:= [none]) rfl nd (lB (aq dr)) trivial (bG (aa 0)) (λ_ _ _=>(bF 0 (show(["row"]:List Str).Nodup from by decide+kernel))) (λ_ _ _=>cZ) (λ_ _ _=>f6))
   (af (sF false 1 ao f6)
   (af (hJ 2 nd (eo (ab ao ae)))
   (af (oq PassesOwn.never (eU (aa 2)) (af (LC 3 2 nd)
   (ai (cu rfl PassesOwn.never (bG (aJ (aa 0) (aa 3))) (aG 4 nd) (ai (bh (fS (eU (aJ (aa 1) (aa 4)))) (af (sF false 1 (aa 4) f6)
   (ai (qB false 2 (aa 4)))) aO))))))
   (ai (aE (aa 1))))))),?_⟩
 obtain⟨w',rfl,g,h1,gb,q⟩:=h;refine⟨_,rfl,fU (ρ:= [none]) av (λ_=> .bl false) w' _ (λy hy Y h=>h) rfl (small (by omega)) λaD=>?_⟩
 have e0:w'.map (λ_=>D.bl false)=uj (List.replicate w'.length false):=by unfold uj;rw[List.map_replicate,List.map_const']
 rw[e0];refine⟨trivial,_,rfl,0,0,rfl,by rw[AN,kW];exact bU (k:=0) (by omega),?_⟩
 rw[AO];refine⟨by show 1<=sizeLine;decide,?_⟩
 refine lU (λm ρ=>∃(bs:List Bool)(ws:List Nat)(o3 o4:Option D),ρ= [some (ay w'),some (.lst (uj bs)),some (.lst (ws.map ag)),o3,o4]/\RI w' bs ws [] m/\Met w' bs/\m<=14/\bs.count false+ws.length=m) w'.length ?_ ?_
 ·refine⟨_,[0],none,none,rfl,⟨by simp,?_,?_,λx hx=>?_,?_⟩,λx hx=>?_,gb,?_⟩
  ·rw[gM,if_pos rfl,if_pos (by rw[kW];omega)]
  ·intro x hx
   have:x=0:=by simpa using hx
   rw[this,gM,if_pos rfl,if_pos (by rw[kW];omega)]
  ·by_cases e:0=x
   ·exact .inl (by rw[<-e];simp)
   ·rw[gM,if_neg e,n6] at hx
    split at hx<;>cases hx
  ·rw[List.count_set (by rw[kW];omega),List.count_replicate_self,List.getElem_replicate]
   simp;omega
  ·by_cases e:0=x
   ·rw[<-e];exact .refl _
   ·rw[gM,if_neg e,n6] at hx
    split at hx<;>cases hx
  ·rw[List.count_set (by rw[kW];omega),List.count_replicate_self,List.getElem_replicate]
   simp;omega
 ·rintro m _ ⟨bs,ws,o3,o4,rfl,ri,mt,hc,VI⟩
  refine⟨_,rfl,rfl,?_⟩
  rcases List.eq_nil_or_concat ws with rfl| ⟨R3,p,e⟩
  ·exact bH ⟨_,rfl,q bs m ri mt⟩
  ·rw[List.concat_eq_append] at e
   subst e;rw[show mD (.lst ((R3++ [p]).map ag))=true by simp[mD]]
   refine b9 ?_;rw[dG] at VI;simp only[xg] at VI;obtain⟨c',rfl⟩:∃c',m=c'+1:=⟨m-1,by omega⟩
   have ri2:=ri.pop;have hp:bs[p]? =some true:=ri.wt p (by simp)
   have hpw:p<w'.length:=by rw[<-ri.len];exact(cT.mp hp).1
   refine⟨R3.map ag,ag p,by rw[fc];rfl,?_⟩
   refine⟨_,rfl,_,rfl,_,bC (kU hpw),bJ (λj ρ=>∃(pI:List Bool)(ya:List Nat)(o4:Option D),ρ= [some (ay w'),some (.lst (uj pI)),some (.lst (ya.map ag)),some (ag p),o4]/\RI w' pI ya [p] c'/\Met w' pI/\(∀k y,k<j->(row w' p)[k]? =some y->pI[y]? =some true)/\pI.count false+ya.length=c') ?_ ?_ ?_⟩
   ·exact⟨bs,R3,_,rfl,ri2,mt,(λk n hk=>by omega),by omega⟩
   ·rintro j x _ hx ⟨pI,ya,o5,rfl,Kn,Mi,ER,Pb⟩ A hA
    obtain⟨n,hn,rfl⟩:=bZ hx;have hnw:=g.rng _ _ (eS hn);have QQ:n<pI.length:=by rw[Kn.len];exact hnw
    have IJ:pI[n]? =some (pI[n]):=bL QQ;refine⟨_,rfl,_,rfl,_,bC (HN IJ),rfl,?_⟩;generalize pI[n]=bn at IJ;cases bn with
    |true=>
     refine bH (hA _ ⟨pI,ya,_,rfl,Kn,Mi,λk y hk hy=>?_,Pb⟩)
     by_cases e:k=j
     ·rw[e,hn] at hy;cases hy;exact IJ
     ·exact ER k y (by omega) hy
    |false=>
     refine b9 ?_;refine⟨trivial,_,rfl,_,rfl,_,n,rfl,by rw[AN];exact bU QQ,?_⟩
     rw[AO];have MZ:=Kn.push IJ;have aau:=MZ.cnt;refine⟨_,rfl,_,rfl,trivial,fw (by rw[aI];omega),?_⟩
     have er:ya.map ag++ [ag n]=(ya++ [n]).map ag:=by rw[fc];rfl
     rw[er];refine hA _ ⟨pI.set n true,ya++ [n],_,rfl,MZ,λy hy=>?_,λk y hk hy=>?_,?_⟩
     ·by_cases e:n=y
      ·rw[<-e];exact .step (mt p hp) (eS hn)
      ·rw[gM,if_neg e] at hy;exact Mi y hy
     ·rw[gM]
      by_cases e:n=y
      ·rw[if_pos e,if_pos QQ]
      ·rw[if_neg e]
       refine ER k y ?_ hy;apply Classical.byContradiction;intro z
       have:k=j:=by omega
       rw[this,hn] at hy;cases hy;exact e rfl
     ·obtain⟨hl,he⟩:=cT.mp IJ
      have:0<pI.count false:=List.count_pos_iff.mpr (by rw[<-he];exact kZ hl)
      rw[List.count_set hl,he,dG];simp;omega
   ·rintro _ ⟨pI,ya,o5,rfl,Kn,Mi,ER,Pb⟩
    have MZ:=Kn.close λy hy=>by
     obtain⟨k,hk⟩:=pA hy;exact ER k y (by rw[aI];exact(cT.mp hk).1) hk
    exact⟨c',by omega,pI,ya,_,_,rfl,MZ,Mi,by omega,Pb⟩
def B4:bP:=λds P=>∃(w:W),ds= [ay w]/\yb w/\1<=w.length/\w.length<=14/\(Good w->P .aZ)/\(¬Good w->∀q,P (.tup [.str "apart", .int 0,ag q]))
theorem uy:FnOk P w Z.K mg base bB 2 T.d_apart_fault.f T.d_apart_fault.fd ["rows"] (aF Z B4):=by
 have nd:=mr.nd;refine aP T.d_apart_fault.F mr [0,0,0] (by decide) (λds R h=>by obtain⟨_,rfl,_⟩:=h;rfl) (λbc A outer s H E ds R hr h=>?_)
 have hu:=hr.units
 refine⟨_,(af (cu rfl PassesOwn.never (eC rfl T.B.enumerate (ab (ax T.d_reached_from_first (lI T) hr (ab (aa 0) ae)) ae)) (eu 2 rfl (aN (aG 1 nd) (aN (aG 2 nd) b7))) (ai (bh (fS (eU (aa 2))) (ai (aE (cG (ab dj (ab ao (ab (aa 1) ae)))))) aO)))
   (ai (aE cg))),?_⟩
 obtain⟨w',rfl,g,h1,gb,q1,q2⟩:=h;refine⟨_,rfl,w',rfl,g,h1,gb,λbs m ri mt=>bJ (λk ρ=>(∀x,x<k->bs[x]? =some true)/\∃o1 o2,ρ= [some (ay w'),o1,o2]) ⟨λx hx=>absurd hx (Nat.not_lt_zero x),_,_,rfl⟩ ?_ ?_⟩
 ·rintro j d _ hd ⟨up,o1,o2,rfl⟩ A hA
  obtain⟨y,hy,rfl⟩:=f9 hd;obtain⟨b,hb,rfl⟩:=bZ hy;refine⟨rfl,rfl,?_⟩;cases b with
  |true=>
   refine⟨_,rfl,rfl,bH (hA _ ⟨λx hx=>?_,_,_,rfl⟩)⟩
   by_cases e:x=j
   ·rw[e];exact hb
   ·exact up x (by omega)
  |false=>
   refine⟨_,rfl,rfl,b9 ⟨_,rfl,by show 3<=sizeLine;decide,q2 (λg'=>?_) j⟩⟩
   have:=ri.all g'
   rw[this,n6] at hb
   split at hb<;>cases hb
 ·rintro _ ⟨up,o1,o2,rfl⟩
  refine q1 (g.good λp hp=>mt p (up p ?_))
  have:=ri.len
  unfold uj fv;simp;omega
theorem me:FnOk P w Z.K mg base bB 3 T.d_first_fault.f T.d_first_fault.fd ["rows"] (aF Z B4):=by
 have nd:=mw.nd;refine aP T.d_first_fault.F mw [0,0] (by decide) (λds R h=>by obtain⟨_,rfl,_⟩:=h;rfl) (λbc A outer s H E ds R hr h=>?_)
 have hu:=hr.units
 refine⟨_,(af (aH false 1 nd (ax T.d_alien_fault (ux T) hr (ab (aa 0) ae)))
   (af (bh (aK pU (aa 1) cg (aR _)) (ai (aH false 1 nd (ax T.d_self_fault (we T) hr (ab (aa 0) ae)))) aO)
   (af (bh (aK pU (aa 1) cg (aR _)) (ai (aH false 1 nd (ax T.d_twice_fault (uA T) hr (ab (aa 0) ae)))) aO)
   (af (bh (aK pU (aa 1) cg (aR _)) (ai (aH false 1 nd (ax T.d_lone_fault (wa T) hr (ab (aa 0) ae)))) aO)
   (af (bh (aK pU (aa 1) cg (aR _)) (ai (aH false 1 nd (ax T.d_apart_fault (uy T) hr (ab (aa 0) ae)))) aO)
   (ai (aE (aa 1)))))))),?_⟩
 obtain⟨w',rfl,g,h1,gb,q1,q2⟩:=h;refine⟨_,rfl,w',rfl,g,h1,gb,trivial,?_⟩;refine⟨_,rfl,_,rfl,b9 ⟨_,rfl,w',rfl,g,h1,gb,trivial,?_⟩⟩;refine⟨_,rfl,_,rfl,b9 ⟨_,rfl,w',rfl,g,h1,gb,trivial,?_⟩⟩;refine⟨_,rfl,_,rfl,b9 ⟨_,rfl,w',rfl,g,h1,gb,trivial,?_⟩⟩;refine⟨_,rfl,_,rfl,b9 ⟨_,rfl,w',rfl,g,h1,gb,λg'=>⟨trivial,_,rfl,q1 g'⟩,λg' q=>⟨trivial,_,rfl,q2 g' q⟩⟩⟩
theorem tj{P:Program}{w:World}{mg:Str->Option Value}{base:Heap}{Z:DC}(T:Txt Z mg):FnOk P w Z.K mg base bB 4 T.i_f T.i_fd ["self","turns"] (B5 Z):=by
 have IA:=me (P:=P) (w:=w) (base:=base) T;have nd:=kN.nd;refine T.i_F.ok kN (λvs H Q E h=>?_) (λbc A outer s H vs Q E hr h=>?_)
 ·obtain⟨p,dx,v,G,w',rfl,_⟩:=h;rfl
 obtain⟨p,dx,v,G,w',rfl,hp,sG,gp,dv,g,h1,gb,q⟩:=h;have hu:=hr.units
 refine⟨_,gX (t:=pT Z _ [0,0,0,0] 0 _)
   (bh (fS (F0 v7 v7 ao (aA aX rfl T.B.len aW (ab (aa 1) ae)) (yf rfl T.c_MOST_POINTS))) (ai iU) aO)
  (gX (t:=pT Z _ [0,0,0,0] 0 _)
   (yi 2 (NC:= ["row"]) (src:= [none]) rfl nd (lB (aq fb)) trivial (bG (aa 1)) (λ_ _ _=>(bF 0 (show(["row"]:List Str).Nodup from by decide+kernel))) (λ_ _ _=>cZ) (λ_ _ _=>(jb qs rfl T.B.list kB (ab (aa 0) ae))))
  (gX (t:=pT Z _ [0,0,0,0] 0 _)
   (aH false 3 nd (ax T.d_first_fault (me T) hr (ab (aa 2) ae)))
  (gX (t:=pT Z _ [0,0,0,0] 0 _)
   (bh (aK td (aa 3) cg (aR _)) (ai iU) aO)
  (rF (MR (pv 0) (pv 2) rfl))))),?_⟩
 have lw:(w'.map av).length=w'.length:=aI _;refine⟨⟨G,H,G⟩,[some (.obj p),some (ay w'),none,none],{nx:=λρ=>ρ= [some (.obj p),some (ay w'),none,none],rt:=λ_=>False},⟨G,λ_=> [],?_⟩,?_,⟨?_,λ_ z=>z.elim,λ_ z=>z.elim,λ_ z=>z.elim,λ_ _ z=>z.elim⟩⟩
 ·refine⟨.refl sG, .refl _,rfl,λi d hi=>?_,λ_=>iL,(λ_ _ _ _ z=>by cases z),(λ_ _ z=>by cases z)⟩
  match i,hi with
  |0,hi=>cases hi;exact⟨_,rfl, .obj p,rfl⟩
  |1,hi=>cases hi;exact⟨_,rfl,dv,rfl⟩
  |2,hi=>cases hi
  |3,hi=>cases hi
  |i+4,hi=>cases hi
 ·have e1:D.bl (decide ((1:Int)<=((w'.map av).length:Int)))= .bl true:=congrArg D.bl (decide_eq_true (by rw[lw];omega))
  have e2:D.bl (decide (((w'.map av).length:Int)<=14))= .bl true:=congrArg D.bl (decide_eq_true (by rw[lw];omega))
  exact⟨_,rfl,true,e1,b9 ⟨true,e2,bH rfl⟩⟩
 rintro _ rfl EB H1 S1;refine⟨⟨G,H,G⟩,_,{nx:=λρ=>ρ= [some (.obj p),some (ay w'),some (ay w'),none],rt:=λ_=>False},S1,?_,⟨?_,λ_ z=>z.elim,λ_ z=>z.elim,λ_ z=>z.elim,λ_ _ z=>z.elim⟩⟩
 ·exact⟨_,rfl,fU (ρ:= [none]) av av w' _ (λy hy Y h=>⟨_,rfl,h⟩) rfl (small (by omega)) λaD=>⟨trivial,rfl⟩⟩
 rintro _ rfl fF H2 S2;refine⟨⟨G,H,G⟩,_,{nx:=λρ=>ρ= [some (.obj p),some (ay w'),some (ay w'),some .aZ],rt:=λ_=>False},S2,?_,⟨?_,λ_ z=>z.elim,λ_ z=>z.elim,λ_ z=>z.elim,λ_ _ z=>z.elim⟩⟩
 ·exact⟨_,rfl,w',rfl,g.near,h1,gb,λ_=>⟨trivial,rfl⟩,λz=>absurd g z⟩
 rintro _ rfl uG H3 S3;refine⟨⟨G,H,G⟩,_,{nx:=λρ=>ρ= [some (.obj p),some (ay w'),some (ay w'),some .aZ],rt:=λ_=>False},S3,?_,⟨?_,λ_ z=>z.elim,λ_ z=>z.elim,λ_ z=>z.elim,λ_ _ z=>z.elim⟩⟩
 ·exact⟨_,rfl,_,rfl,bH rfl⟩
 rintro _ rfl fG H4 ⟨G4,fp,S4⟩;obtain⟨v0,jh,o0⟩:=S4.at_ 0 _ rfl;obtain⟨v2,vI,o2⟩:=S4.at_ 2 _ rfl;obtain⟨d0,_⟩:=o0;obtain⟨d2,_⟩:=o2;cases d0;have d2':=d2;cases d2 with
 | @lst R xs ds hR e=>
  have hp4:=S4.ex.hh _ _ hp;refine⟨_,vI,_,jh,p,Z.C,dx,[],rfl,hp4,T.W.cl,T.W.nR,by decide,?_⟩
  have g4:G4 p=none:=S4.ex.off p (by show H p≠none;rw[hp];exact λz=>nomatch z) gp
  refine q R G4 _ S4.ex.gg (λb o eb=>?_) (λb o eb nb=>?_) S4.ex.off au d2'
  ·rw[aw (aU eb g4)];exact S4.ex.sub _ _ eb
  ·rw[aw nb];exact S4.ex.hh _ _ eb
def Nd:bP:=λds P=>∃(w:W),ds= [.fk w]/\P (.int (w.length:Int))
theorem eZ:FnOk P w Z.K mg base bB 1 T.m_many.f T.m_many.fd ["self"] (aF Z Nd):=by
 have nd:=rJ.nd;refine aP T.m_many.F rJ [0] (by decide) (λds R h=>by obtain⟨_,rfl,_⟩:=h;rfl) (λbc A outer s H E ds R hr h=>?_)
 have hu:=hr.units;refine⟨_,(ai (aE (aA aX rfl T.B.len aW (ab (qw T.W (aa 0)) ae)))),?_⟩;obtain⟨w',rfl,q⟩:=h;refine⟨_,rfl,w',rfl,?_⟩;refine(?_:R (.int ((w'.map av).length:Int)));rw[aI];exact q
def KL:bP:=λds P=>∃(w:W),ds= [.fk w]/\w.length<=14/\P (ay w)
theorem j9:FnOk P w Z.K mg base bB 1 T.m_turns.f T.m_turns.fd ["self"] (aF Z KL):=by
 have nd:=oX.nd;refine aP T.m_turns.F oX [0] (by decide) (λds R h=>by obtain⟨_,rfl,_⟩:=h;rfl) (λbc A outer s H E ds R hr h=>?_)
 have hu:=hr.units;refine⟨_,(ai (aE (jc (NC:= ["row"]) (src:= [none]) rfl (lB (aq iQ)) trivial (bG (qw T.W (aa 0))) (λ_ _ _=>(bF 0 (show(["row"]:List Str).Nodup from by decide+kernel))) (λ_ _ _=>cZ) (λ_ _ _=>(jb qs rfl T.B.list kB (ab (aa 0) ae)))))),?_⟩
 obtain⟨w',rfl,gb,q⟩:=h;exact⟨_,rfl,w',rfl,fU (ρ:= [none]) av av w' _ (λy hy Y h=>⟨_,rfl,h⟩) rfl (small (by omega)) λaD=>q⟩
end lg
namespace L2
open PySem PySem.Spec PyProof.Rows
section
variable {Z:DC} {X:Cx} {md:List Nat} {rn:Nat} {e:Expr} {pos p2:Pos} {te:aY} {t:gu} {lo hi:Option Expr} {tl th:xr}
def fSl(te:aY)(tl th:xr):gu:=λρ P=>te ρ λx=>tl ρ λlo=>th ρ λhi=>match x with
 | .lst l=>P (cutD l lo hi)
 |_=>False
theorem FW(he:DE Z X e te)(hl:DO Z X lo tl)(hu:DO Z X hi th):DF Z X 1 (.Subscript e (.Slice lo hi none p2) pos) (fSl te tl th):=by
 refine(tw BY he hl hu).imp ?_;intro σ H Q aL;rfl';obtain⟨G,ρ,P,s,en,h,q⟩:=aL;ac_rfl;refine⟨G,ρ,_,s,en,h,λd hd v G1 H1 x1 dv=>?_⟩;refine⟨G1,ρ,_,x1.sub,en.mono x1.gg,hd,λl hl G2 H2 x2=>?_⟩;refine⟨G2,ρ,_,x2.sub,(en.mono x1.gg).mono x2.gg,hl,λu hu G3 H3 x3=>?_⟩;have x:=(x1.trans x2).trans x3;have dv:=(dv.mono x2.gg).mono x3.gg;cases dv<;>first|exact hu.elim|skip
 rename_i h e
 refine⟨_,_,rfl,bX.of (x3.sub _ _ h),λp hn=>?_⟩;obtain⟨o1,o2,o3⟩:=rb x hn (uJ e l u);exact q _ hu _ _ _ _ (x.side hn) o1 o2 o3
def P8(t:gu):cx:=λE ρ=>t ρ λds=>E.rt (.lst ds)
theorem A3(he:DF Z X rn e t):DSt Z X md rn (.Return (some e) pos) (P8 t):=by
 refine(rD he).imp λD σ H g8=>?_;rfl';obtain⟨B,ρ,E,⟨G,fp,S⟩,h,M⟩:=g8;ac_rfl
 let F:Addr->Prop:=λb=>∃i,b∈fp i
 have s:=S.ex.sub
 have x0:Ext B.G₀ B.H₀ (plus G H F) H:=⟨S.ex.gg.trans (fg s),i6 s,S.ex.hh,λb hb hg=>by
  rw[gW (λ⟨i,hi⟩=>hb (S.nw i b hi).1)];exact S.ex.off b hb hg⟩
 refine⟨plus G H F,ρ,_,i6 s,⟨S.len,λi d h=>?_⟩,h,λds hd v f G' H' x o nd nw=>M.rt _ hd v f G' H' (x0.trans x) o nd λb hb=>⟨S.ex.hh.free (nw b hb).1,(nw b hb).2⟩⟩;obtain⟨v,hv,o⟩:=S.at_ i d h;exact⟨v,hv,o.dv (fg s) λb hb u e=>by rw[kL ⟨i,hb⟩];exact e⟩
end
theorem bT.set{R:V->D->List Addr->Prop}:∀{ys:List V}{jC:List D}{cC:List Addr}(p:Nat){v:V}{d:D}{f:List Addr},bT R ys jC cC->p<ys.length->R v d f->cC.Nodup->f.Nodup->(∀b∈f,b∉cC)->
  ∃vB,bT R (ys.set p v) (jC.set p d) vB/\vB.Nodup/\∀b∈vB,b∈cC\/b∈f
 |_,_,_,_,_,_,_, .nil,h,_,_,_,_=>by simp at h
 |_,_,_,0,v,d,f, .cons (f:=f0) (fs:=fs) a as,_,r,nd,JA,off=>by
  obtain⟨DR,nh,Ml⟩:=gN.mp nd;refine⟨f++fs, .cons r as,gN.mpr ⟨JA,nh,λb hb c hc e=>off b hb (dQ _ (e▸hc))⟩,λb hb=>?_⟩
  rcases fR.mp hb with hb|hb
  ·exact .inr hb
  ·exact .inl (dQ _ hb)
 |_,_,_,p+1,v,d,f, .cons (f:=f0) (fs:=fs) a as,h,r,nd,JA,off=>by
  rfl';obtain⟨DR,nh,Ml⟩:=gN.mp nd;obtain⟨Qp,o,n',s'⟩:=bT.set p as (by simpa using h) r nh JA λb hb z=>off b hb (dQ _ z)
  ac_rfl;refine⟨f0++Qp, .cons a o,gN.mpr ⟨DR,n',λb hb c hc e=>?_⟩,λb hb=>?_⟩
  ·rcases s' c hc with z|z
   ·exact Ml b hb c z e
   ·exact off c z (mE _ (e▸hb))
  ·rcases fR.mp hb with hb|hb
   ·exact .inl (mE _ hb)
   ·rcases s' b hb with z|z
    ·exact .inl (dQ _ z)
    ·exact .inr z
section
variable {Z:DC} {X:Cx} {md:List Nat} {rn:Nat} {e k:Expr} {pos:Pos} {tk:aY} {t:gu}
variable {B:Bs} {ρ:DN} {σ:St} {H G:Hp} {fp:Nat->List Addr}
theorem SIx.RG{i:Nat}{T:Addr}{c:HO}{d':D}{f:List Addr}(S:SIx Z B md ρ σ H G fp)(hi:σ[i]? =some (some (.ref T)))(hT:T∈fp i)(o:Own Z G (upd H T c) (md.getD i 0) (.ref T) d' f)(nd:f.Nodup)
  (nw:∀b∈f,B.H₀ b=none/\H b≠none/\G b=none) (ap:∀b∈f,∀j,j≠i->b∉fp j):SIx Z B md (ρ.set i (some d')) σ (upd H T c) G (λj=>if j=i then f else fp j) where
 ex:=by
  obtain⟨h1,h2,h3⟩:=S.nw i T hT;exact⟨S.ex.gg,λx u e=>by rw[aw (aU e h3)];exact S.ex.sub _ _ e,λx u e=>by rw[aw (aU e h1)];exact S.ex.hh _ _ e,S.ex.off⟩
 fl:=S.fl
 len:=by rw[cM];exact S.len
 at_:=λj w h=>by
  by_cases z:i=j
  ·subst z
   by_cases hl:i<ρ.length
   ·rw[gF hl] at h
    cases Option.some.inj h;exact⟨_,hi,by rw[if_pos rfl];exact o⟩
   ·rw[xb (gH hl),eQ (gH hl)] at h;cases h
  ·rw[gG z] at h
   obtain⟨u,hu,ow⟩:=S.at_ j w h;refine⟨u,hu,?_⟩;rw[if_neg (Ne.symm z)];exact ow.keep (.refl _) λb hb=>aw λy=>S.ap i j T z hT (y▸hb)
 nd:=λj=>by split;exact nd;exact S.nd j
 ap:=λj k b ne hj hk=>by
  split at hj
  ·next z=>
   rw[if_neg (λw=>ne (z.trans w.symm))] at hk;exact ap b hj k (λw=>ne (z.trans w.symm)) hk
  ·next z=>
   split at hk
   ·exact ap b hk j z hj
   ·exact S.ap j k b ne hj hk
 nw:=λj b hb=>by
  have zc:∀b,H b≠none->upd H T c b≠none:=λb hb=>by
   by_cases z:b=T
   ·subst z;rw[au];exact λw=>nomatch w
   ·rw[aw z];exact hb
  split at hb
  ·obtain⟨h1,h2,h3⟩:=nw b hb;exact⟨h1,zc b h2,h3⟩
  ·obtain⟨h1,h2,h3⟩:=S.nw j b hb;exact⟨h1,zc b h2,h3⟩
def FT(i:Nat)(tk:aY)(t:gu):cx:=λE ρ=>t ρ λd=>d.all df=true/\∃ds,ρ[i]? =some (some (.lst ds))/\tk ρ λkk=>∃k j,kk= .int k/\jD ds.length k=some j/\E.nx (ρ.set i (some (.lst (ds.set j (.lst d)))))
theorem hZ(i:Nat){x:Str}{px ps:Pos}(hk:DE Z X k tk)(he:DF Z X 1 e t)(hm:md.getD i 0=2:=by rfl)(hi:X.N[i]? =some x:=by rfl)(hv:j5 X.env.scope x:=by first|exact Or.inl rfl|exact Or.inr (Or.inl rfl) |exact Or.inr (Or.inr rfl))(hd:(x==("__debug__":Str))=false:=by decide)(dh:(x==("__classdict__":Str))=false:=by decide)
  (ha:∀v,assign (.Subscript (.Name x px) k ps) X.env v=(do
   let ov <-holding [v] (eval (.Name x px) X.env)
   let iv <-holding [v,ov] (eval k X.env)
   standAt ps
   holding [v,ov,iv] (setItem ov iv v)
   release [v,ov,iv] []):=by intro _;rfl)
  (hs:swapsWithSole [.Subscript (.Name x px) k ps] e pos.line X.env=pure false:=by rfl) (hw:swappedStores [.Subscript (.Name x px) k ps] e X.env=pure none:=by rfl)
  (h1:(assignEach [.Subscript (.Name x px) k ps] X.env).map (·.2)= [assign (.Subscript (.Name x px) k ps) X.env]:=by rfl):DSt Z X md rn (.Assign [.Subscript (.Name x px) k ps] e pos) (FT i tk t):=by
 refine(oJ he (rz (pv i hi hv hd dh) hk set_list ha) hs hw h1).imp ?_;intro D σ H aL;rfl';obtain⟨B,ρ,E,⟨G,fp,S⟩,h,M⟩:=aL;ac_rfl;refine⟨H,ρ,_, .refl _,S.A8,h,?_⟩;rintro d ⟨QE,ds,h1,h⟩ v f G' H' x o nd nw;rfl';have x':=Ext.all S.ex.sub x;have S':=S.grow x';obtain⟨a,xs,fM,cC,rfl,ed,VD,QD,ol⟩:=o.lst;cases ed;obtain⟨dv,rfl⟩:=ol.flat;have hb:H a=none:=(nw a (by rw[QD];simp)).1
 have ga:G a=none:=S.ex.sub.free hb;have HE:∀j,a∉fp j:=λj z=>(S.nw j a z).2.1 hb;obtain⟨v0,jh,o0⟩:=S'.at_ i _ h1;rw[hm] at o0;obtain⟨T,ys,_,fpT,rfl,eT,hT,hfT,oT⟩:=o0.lst;ac_rfl;refine⟨_,jh,S'.ev true h ?_⟩;rintro _ ⟨k,j,rfl,hj,h3⟩;refine⟨rfl,λv1 G1 H1 S1 x1 sH=>?_⟩;cases sH.ofInt;rfl';obtain⟨v2,vI,Xm⟩:=S1.at_ i _ h1;rw[hm] at Xm;obtain⟨T2,R5,Vc,Bd,rfl,e2,hT2,xJ,o2⟩:=Xm.lst;cases e2;rw[jh] at vI;cases vI;have Xf:=S1.nd i;rw[xJ] at Xf;obtain⟨nT,nh⟩:=eI.mp Xf;ac_rfl;have aT:a≠T:=λz=>HE i (by rw[xJ,z];simp)
 have a1:H1 a=some (.lst xs):=x1.hh _ _ VD;have ga1:G1 a=none:=x1.off a (by rw[VD];exact λz=>nomatch z) ga
 have jlt:j<R5.length:=by
  have:=o2.length
  unfold jD at hj
  split at hj
  ·split at hj
   ·cases hj;omega
   ·cases hj
  ·split at hj
   ·cases hj;omega
   ·cases hj
 obtain⟨vB,on,ndn,sub⟩:=bT.set (R:=Own Z G1 H1 1) j (v:= .ref a) (d:= .lst d) (f:= [a]) o2 jlt (.inl ⟨a,xs,d,[],rfl,rfl,a1,rfl,((dv.flat QE).own)⟩) nh (by simp) (λb hb z=>by
  have:b=a:=by simpa using hb
  subst this;exact HE i (by rw[xJ];exact b8 _ z))
 have Tn:T∉vB:=λz=>by
  rcases sub T z with z|z
  ·exact nT z
  ·exact aT ((by simpa using z:T=a).symm)
 refine⟨T,R5,k,j,rfl,rfl,hT2,by rw[o2.length];exact hj,M.nx _ h3 _ _ ⟨G1,_,S1.RG (f:=T::vB) jh (by rw[xJ];simp) ?_ (eI.mpr ⟨Tn,ndn⟩) (λb hb=>?_) (λb hb m mI=>?_)⟩⟩
 ·rw[hm]
  exact .inl ⟨T,R5.set j (.ref a),_,vB,rfl,rfl,au,rfl,on.imp λv d f hf r=>r.keep (.refl _) λb hb=>aw λz=>Tn (by rw[<-z];exact hf b hb)⟩
 ·rcases cD.mp hb with rfl|hb
  ·exact S1.nw i _ (by rw[xJ];simp)
  ·rcases sub b hb with z|z
   ·exact S1.nw i b (by rw[xJ];exact b8 _ z)
   ·have:b=a:=by simpa using z
    subst this;exact⟨S.ex.hh.free (by assumption),(by rw[a1];exact λz=>nomatch z),ga1⟩
 ·rcases cD.mp hb with rfl|hb
  ·exact λz=>S1.ap i m _ (Ne.symm mI) (by rw[xJ];simp) z
  ·rcases sub b hb with z|z
   ·exact λw=>S1.ap i m b (Ne.symm mI) (by rw[xJ];exact b8 _ z) w
   ·have:b=a:=by simpa using z
    subst this;exact HE m
end
section
variable {Z:DC} {X:Cx} {md:List Nat} {rn:Nat} {elt t0 i0 t1 i1:Expr} {f0 f1:List Expr} {scope:Scope} {pos:Pos} {wi gh:iM} {g g1:fi} {tt dP:dJ} {te:aY} {src:List (Option Nat)} {NC:List Str}
end
section
variable {Z:DC} {X:Cx}
theorem rB(ns:List Int):∀n,n<=ns.length->preSum (λi=>ns.getD i 0) n=(ns.take n).sum
 |0,_=>by simp[preSum]
 |n+1,h=>by
  have:=rB ns n (by omega)
  rw[preSum,this,List.take_succ_eq_append_getElem (by omega),List.sum_append,bb,bL (by omega)]
  simp
theorem CG(hc:X.calm=true):cU X (.builtin "sum") (λxs H Q=>∃(p:Addr)(ns:List Int),xs= [.ref p]/\H p=some (.lst (ns.map V.int))/\Q (.int ns.sum) H):=by
 intro pins s σ H xs us Q I rv h;rfl';obtain⟨p,ns,rfl,hp,q⟩:=h;obtain⟨u,rfl,ru⟩:=rv.one;subst ru;obtain⟨its,r,pl,hz⟩:=I.list (bX.of hp);have hl:=r.length;rw[aI] at hl;ac_rfl;refine call_sum_walkG (wpAny_pyIter_list pl.isList ?_)
 have dZ:p<s.heap.objs.size:=by
  obtain⟨o,ho,_⟩:=pl.isList;exact Heap.lt_size ho
 have sO:p≠s.heap.objs.size:=cH dZ;refine⟨_,_,_,its.toArray.size,_,_,λi=>ns.getD i 0,rfl,Walks.list (show X.A.in1.handled=none from I.ok.hd hc) s.heap.objs.size p sO its.toArray,⟨⟨_,Heap.get?_push_size _ rfl,rfl,rfl⟩,pl.isList.push _⟩,?_,?_,λh' tk t' kk=>?_⟩
 ·intro b hb
  show b<(s.heap.push _).objs.size;rw[size_push'];simp only[cD,iK,or_false] at hb
  rcases hb with rfl|rfl
  ·exact Cv _
  ·exact Nat.lt_succ_of_lt dZ
 ·intro i v hv
  have vH:its[i]? =some v:=by simpa using hv
  have hi:i<its.length:=(cT.mp vH).1;obtain⟨w,hw,tF⟩:=r.get (i:=i) (x:= .int (ns.getD i 0)) (by rw[cL,bb,bL (by omega)];rfl)
  rw[hw] at vH;cases Option.some.inj vH;exact tF
 ·have kept:∀b o,s.heap.get? b=some o->h'.get? b=some o:=λb o e=>kk b o (by simp;exact cH (Heap.lt_size e)) (Heap.get?_push_of_some _ e)
  have e:preSum (λi=>ns.getD i 0) its.toArray.size=ns.sum:=by
   rw[fe,<-hl,rB ns _ (br _),Fz (br _)]
  rw[e];exact⟨.int _,H,I.kept kept,⟨_,rfl⟩,q⟩
def Tg:bP:=λds P=>∃ns:List Int,ds= [.lst (ns.map D.int)]/\P (.int ns.sum)
theorem Lk(hc:X.calm=true):cU X (.builtin "sum") (jm Z Tg):=by
 refine(CG hc).imp ?_;rintro xs H Q ⟨G,ds,P,s,dv,⟨ns,rfl,hp⟩,q⟩;cases dv with
 |cons a as=>
  cases as;cases a with
  |lst h e=>exact⟨_,ns,rfl,qE e▸s _ _ h,q _ hp _ G H (.refl s) (.int _)⟩
theorem Lj:bootBuiltins "sum"=some (.builtin "sum"):=by decide+kernel
end
theorem fq.ok{P:Program}{w:World}{H:Hp}{h:Heap}{a:Addr}{b:Bool}{es:List (Int×Addr)}(x:fq b a es h):cO P w H h a (.ext (fq b a es)):=by
 refine⟨x,let ⟨o,_,_,_,ho,_⟩:=x;⟨o,ho⟩,λh1 h2 p k=>?_⟩;obtain⟨o,eA,ep,t,ho,r⟩:=p;exact⟨o,eA,ep,t,k o ho,r⟩
theorem i8.mem{H:Hp}:∀{es:List (Int×Addr)}{ps:List (Int×Int)},i8 H es ps->∀e∈es,∃p∈ps,e.1=gn p/\H e.2=some (.tup [.int p.1, .int p.2])
 |_,_, .nil,e,he=>nomatch he
 |_,_, .cons (p:=p) h t,e,he=>by
  rcases cD.mp he with rfl|he
  ·exact⟨p,cw ..,rfl,h⟩
  ·obtain⟨q,h1,h2⟩:=t.mem e he
   exact⟨q,b8 _ h1,h2⟩
theorem i8.OK{H:Hp}:∀{es:List (Int×Addr)}{ps:List (Int×Int)},i8 H es ps->∀p∈ps,∃a,(gn p,a)∈es/\H a=some (.tup [.int p.1, .int p.2])
 |_,_, .nil,p,hp=>nomatch hp
 |_,_, .cons (a:=a) h t,p,hp=>by
  rcases cD.mp hp with rfl|hp
  ·exact⟨a,cw ..,h⟩
  ·obtain⟨a',h1,h2⟩:=t.OK p hp
   exact⟨a',b8 _ h1,h2⟩
theorem i8.len{H:Hp}:∀{es:List (Int×Addr)}{ps:List (Int×Int)},i8 H es ps->es.length=ps.length
 |_,_, .nil=>rfl
 |_,_, .cons _ t=>congrArg (·+1) t.len
theorem i8.snoc{H:Hp}{a:Addr}{p:Int×Int}(h:H a=some (.tup [.int p.1, .int p.2])):∀{es:List (Int×Addr)}{ps:List (Int×Int)},i8 H es ps->i8 H (es++ [(gn p,a)]) (ps++ [p])
 |_,_, .nil=> .cons h .nil
 |_,_, .cons h' t=> .cons h' (i8.snoc h t)
section
variable {X:Cx} {pins:List (Addr×Obj)} {σ:St} {H:Hp} {s:Shared}
theorem Inv.BU{a:Addr}{p:Int×Int}(I:Inv X pins σ H s)(h:H a=some (.tup [.int p.1, .int p.2])):IsTupleKey (intKind X.prog X.w) s.heap [p.1,p.2] a:=by
 rfl';obtain⟨its,r,⟨o,ho,hc,n,hd⟩,_⟩:=I.tuple (eB.of h);obtain⟨u1,u2,rfl,⟨t,rfl⟩,⟨u,rfl⟩⟩:=Vals.two r;ac_rfl;exact⟨o,_,n,ho,hc,hd, .cons (by simp[intKind,Value.isInt]) (.cons (by simp[intKind,Value.isInt]) .nil)⟩
theorem Inv.ph{a:Addr}{b:Bool}{es:List (Int×Addr)}(I:Inv X pins σ H s)(h:H a=some (.ext (fq b a es))):fq b a es s.heap:=(I.hok a _ h).1
theorem rh(P:Program)(w:World)(p:Int×Int):tupleKeyHash (intKind P w) [p.1,p.2]=gn p:=rfl
theorem Inv.YC{es:List (Int×Addr)}{ps:List (Int×Int)}{eA:Array (Int×Value)}(I:Inv X pins σ H s)(pe:i8 H es ps)(pm:eA.toList.Perm (es.map λe=>(e.1,Value.ref e.2))):Hx X.prog X.w s.heap eA:=λi e he=>by
 rfl';have hm:e∈eA.toList:=by rw[<-jX] at he;exact eS he
 obtain⟨e',C5,rfl⟩:=dE.mp (pm.mem_iff.mp hm);obtain⟨p,_,h1,h2⟩:=pe.mem e' C5;ac_rfl;exact⟨[p.1,p.2],e'.2,by rw[rh,h1],I.BU h2⟩
theorem Inv.m7{es:List (Int×Addr)}{ps:List (Int×Int)}{eA:Array (Int×Value)}(I:Inv X pins σ H s)(pe:i8 H es ps)(pm:eA.toList.Perm (es.map λe=>(e.1,Value.ref e.2)))(p:Int×Int):
  (∃(i:Nat)(c:Addr),eA[i]? =some (tupleKeyHash (intKind X.prog X.w) [p.1,p.2], .ref c)/\IsTupleKey (intKind X.prog X.w) s.heap [p.1,p.2] c)↔p∈ps:=by
 constructor
 ·rintro⟨i,c,h1,h2⟩
  have hm:(tupleKeyHash (intKind X.prog X.w) [p.1,p.2],Value.ref c)∈eA.toList:=by rw[<-jX] at h1;exact eS h1
  obtain⟨e',C5,e1⟩:=dE.mp (pm.mem_iff.mp hm);obtain⟨q,hq,h3,h4⟩:=pe.mem e' C5
  have:e'.2=c:=by have:=(Prod.mk.inj e1).2;injection this
  rw[this] at h4
  have:=(I.BU h4).inj h2
  simp at this
  have:q=p:=Prod.ext this.1 this.2
  rw[<-this];exact hq
 ·intro hp
  obtain⟨a,h1,h2⟩:=pe.OK p hp;have hm:(gn p,Value.ref a)∈eA.toList:=pm.mem_iff.mpr (dE.mpr ⟨_,h1,rfl⟩);obtain⟨i,hi⟩:=List.mem_iff_getElem?.mp hm;rw[jX] at hi;exact⟨i,a,by rw[rh];exact hi,I.BU h2⟩
theorem GS{p pos:Pos}(hg:Gl X "set")(hm:X.mg "set"=none):PE X (.Call (.Name "set" p) [] [] pos) (λσ H Q=>∀q,H q=none->Q (.ref q) (upd H q (.ext (fq (fX X.w) q [])))):=by
 intro pins s σ H Q I h;refine wpAny_Call_Name_kw (hU I hg hm (u:= .type "set") (by decide+kernel) ?_ (by decide) (by decide))
 refine PyProof.Rows.callWith_type rfl (PyProof.Rows.evalArgs_nil3 (zC ?_));have hn:=I.hok.fresh (br _);exact⟨.ref s.heap.objs.size,_,I.laid (t':=s.toks) (λb o e=>Heap.get?_push_of_some _ e) (br _) (o:= .ext (fq (fX X.w) s.heap.objs.size [])) (fq.ok ⟨_,_,_,_,Heap.get?_push_size _ rfl,lW.new X.w, .refl _⟩),rfl,h _ hn⟩
theorem Wl{a c:Addr}{es:List (Int×Addr)}{ps:List (Int×Int)}{p:Int×Int}{Q:Bool->Shared->Prop}{E:Value->Shared->Prop}(hu:X.A.units+64<cLine)(I:Inv X pins σ H s)(hc:H c=some (.tup [.int p.1, .int p.2]))(ha:H a=some (.ext (fq (fX X.w) a es)))(pe:i8 H es ps)
  (h:∀tk,Q (decide (p∈ps)) {s with toks:=tk}):wpAny (model X.prog X.w) X.A (contains (.ref a) (.ref c)) Q E s:=by
 rfl';obtain⟨o,eA,ep,t,ho,S,pm⟩:=I.ph ha;ac_rfl;refine rX hu ho S (I.YC pe pm) (I.BU hc) λtk=>?_
 have:PySem.m7 X.prog X.w s.heap eA [p.1,p.2]=decide (p∈ps):=by
  classical
  unfold PySem.m7;exact decide_eq_decide.mpr (I.m7 pe pm p)
 rw[this];exact h tk
theorem D3(hu:X.A.units+64<cLine):OpR X (compareOp .NotIn) (λx y H Q=>∃c a es ps p,x= .ref c/\y= .ref a/\H c=some (.tup [.int p.1, .int p.2])/\H a=some (.ext (fq (fX X.w) a es))/\i8 H es ps/\Q (.bl (!decide (p∈ps))) H):=by
 intro pins s σ H x y v u Q I rx ry h;rfl';obtain⟨c,a,es,ps,p,rfl,rfl,hc,ha,pe,q⟩:=h;ac_rfl;cases rx;cases ry;exact wpAny_bind (Wl hu I hc ha pe λtk=>wpAny_pure ⟨.bl _,H,I.tok _,rfl,q⟩)
theorem Jy(hu:X.A.units+64<cLine):Lc X "set.add" (λx vs H Q=>∃l c es ps p,x= .ref l/\vs= [.ref c]/\H c=some (.tup [.int p.1, .int p.2])/\H l=some (.ext (fq (fX X.w) l es))/\i8 H es ps/\ps.length<=300/\
  (p∈ps->Q .aZ H)/\(p∉ps->Q .aZ (upd H l (.ext (fq (fX X.w) l (es++ [(gn p,c)])))))):=by
 intro pins s σ H x vs v us Q I rx rv h;rfl';obtain⟨l,c,es,ps,p,rfl,rfl,hc,hl,pe,hz,q1,q2⟩:=h;subst rx;obtain⟨u,rfl,ru⟩:=rv.one;subst ru;obtain⟨o,eA,ep,t,ho,S,pm⟩:=I.ph hl;have hT:s.TypeIs (.ref l) "set":=⟨o,ho,S.ex.1⟩;ac_rfl;refine wpAny_call_entry F.slot_set_add hT F.entry_set_add ?_ (F.args_set_add_2 _ _);unfold Builtin.«set.add» Builtin.Frozenset.oneOther;simp only[List.isEmpty_nil,bind_assoc];unfold Builtin.Frozenset.addrOf setAdd;refine wpAny_bind (wpAny_pure ?_)
 try dsimp only
 refine wpAny_bind (wpAny_pure ?_)
 try dsimp only
 refine wpAny_bind ?_;refine wpAny_holding ?_;have hk:=I.BU hc;refine wpAny_bind (wpAny_pyHash_tuple ?_ hk ?_)
 ·show X.A.units+1<cLine;omega
 have sz:eA.size=ps.length:=by
  have:=pm.length_eq
  rw[n9,aI,pe.len] at this;exact this
 refine Ax (s:={s with toks:=s.toks+([p.1,p.2].length+1)}) (by show X.A.units+1<cLine;omega) ho S (I.YC pe pm) hk (by omega) (λhy=>?_) λhn h' o' mX CT t' sb ia S' pm'=>?_
 ·show wpAny _ _ (ret Value.none) _ _ _
  exact wpAny_pure ⟨_,rfl, .aZ,H,I.tok _,rfl,q1 ((I.m7 pe pm p).mp hy)⟩
 ·show wpAny _ _ (ret Value.none) _ _ _
  have yB:p∉ps:=λz=>by
   obtain⟨i,c',h1,h2⟩:=(I.m7 pe pm p).mpr z;exact hn i _ h1 c' rfl h2
  have I':=I.write (h':=h') (t':=s.toks+([p.1,p.2].length+1)) (x:=l) (e:=l) (o:= .ext (fq (fX X.w) l (es++ [(gn p,c)]))) (by rw[hl];trivial) (.inl rfl) (λb u hb e=>sb.extBut b u hb e) ⟨o',ia⟩ (fq.ok ⟨o',mX,CT,t',ia,S',by
   rw[fc];exact pm'.trans (pm.append_right _)⟩)
  exact wpAny_pure ⟨_,rfl, .aZ,_,I',rfl,q2 yB⟩
def Z6(b:Bool)(r:V->List V->Hp->VK->Prop)(to:TE)(t:TA):TE:=λσ H Q=>to σ H λx H1=>(∃p es,x= .ref p/\H1 p=some (.ext (fq b p es)))/\t σ H1 λxs H2=>r x xs H2 Q
variable {o e:Expr} {es:List Expr} {to:TE} {t:TA} {name:Str} {apos aS:Pos} {id:String} {r:V->List V->Hp->VK->Prop}
theorem MF{b:Bool}(pa:PlainAttrs "set")(slot:Slot "set" name id)(Bm:typeOf (.builtin id)=pure (.type "method_descriptor"))(hm:Lc X id r)(ho:PE X o to)(ha:PA X (e::es) t)
  (eV:attributeBase o name X.env (eval o X.env)=eval o X.env:=by rfl)
  (jg:((backTo aS (starEach (e::es) X.env)).all (λx=>!x.1)&&(backToKw aS (keywordEach [] X.env)).all (λx=>x.1.isSome)
   &&decide ((e::es).length+([]:List Keyword).length+(if ([]:List Keyword).isEmpty then 0 else 1)<30))=true:=by rfl)
  (dS:(apos.endLine==aS.line)=true:=by rfl) (hs:starEach (e::es) X.env=(false,eval e X.env)::starEach es X.env:=by rfl) (eW:(backTo aS (starEach es X.env)).any (·.1)=false:=by rfl):
  PE X (.Call (.Attribute o name apos) (e::es) [] aS) (Z6 b r to t):=by
 intro pins s σ H Q I h;refine wpAny_Call_method_late eV jg dS rfl (thn (ho pins s σ H _ I h) λv s1 bz=>?_);rfl';obtain⟨x,H1,I1,r1,ty,q1⟩:=bz;ac_rfl;rfl';obtain⟨p,mX,rfl,hp⟩:=ty;subst r1;obtain⟨oo,_,_,_,V4,S,_⟩:=I1.ph hp;ac_rfl;refine⟨"set",id,pa,slot,Bm,⟨oo,V4,S.ex.1⟩,λa ea=>?_,?_⟩
 ·cases ea;exact⟨oo,V4,S.ex.2.1⟩
 have hA:=ha aS pins s1 σ H1 _ I1 q1;rw[hs] at hA ⊢;refine Calls.callWith_builtin (by show(false|| (backTo aS (starEach es X.env)).any (·.1))=false;rw[eW]<;>rfl) (Calls.evalArgs_plain ?_)
 exact thn hA λus s2 ⟨vs,H2,I2,r2,q2⟩=>hm pins s2 σ H2 (.ref p) vs (.ref p) us Q I2 rfl r2 q2
end
def Bo(ps:List (Int×Int))(p:Int×Int):List (Int×Int):=if p∈ps then ps else ps++ [p]
section
variable {Z:DC} {X:Cx} {B:Bs} {md:List Nat} {rn:Nat} {ρ:DN} {σ:St} {H G:Hp} {fp:Nat->List Addr} {a e k o:Expr} {ta te tk tp:aY} {pos apos aS p2:Pos}
def Rw(p:Int×Int):D:= .tup [.int p.1, .int p.2]
theorem Dv.OO{v:V}{p:Int×Int}(h:Dv Z G v (Rw p)):∃c,v= .ref c/\G c=some (.tup [.int p.1, .int p.2]):=by
 rfl';obtain⟨c,xs,rfl,h1,h2⟩:=Dv.lG h;obtain⟨v1,v2,rfl,d1,d2⟩:=h2.Af;rw[d1.ofInt,d2.ofInt] at h1;ac_rfl;exact⟨c,rfl,h1⟩
def Ul(w:World)(neg:Bool):fW:=λa b P=>∃p ps,a=Rw p/\b= .x (.rE (fX w) ps)/\P (.bl (if neg=true then !decide (p∈ps) else decide (p∈ps)))
theorem DV(hu:X.A.units+64<cLine):OpR X (compareOp .NotIn) (bR Z (Ul X.w true)):=by
 refine(D3 hu).imp ?_;rintro x y H Q ⟨G,a,b,P,s,da,db,⟨p,ps,rfl,rfl,h⟩,q⟩;obtain⟨c,rfl,hc⟩:=da.OO;cases db with
 |x hp ok=>
  rfl';obtain⟨_,es,rfl,pe⟩:=ok;ac_rfl;exact⟨c,_,es,ps,p,rfl,rfl,s _ _ hc,s _ _ hp,pe.mono s,q _ h _ G H (.refl s) (.bl _)⟩
def Lu(w:World)(i:Nat):cx:=λE ρ=>E.nx (ρ.set i (some (.x (.rE (fX w) []))))
theorem FY(i:Nat){x:Str}{pos' p:Pos}(hN:X.N.Nodup)(hg:Gl X "set")(zV:X.mg "set"=none)(hm:md.getD i 0=98:=by rfl)(hi:X.N[i]? =some x:=by rfl)(hx:Loc X.env.scope x:=by first|exact Or.inl rfl|exact Or.inr rfl)(hs:swapsWith (.Call (.Name "set" p) [] [] p2) (some (.Name x pos')) pos.line X.env=pure false:=by rfl)
  (hf:X.fn x=true\/X.env.scope.names.lookup x=some .local:=by first|exact .inl rfl|exact .inr rfl|assumption):DSt Z X md rn (.Assign [.Name x pos'] (.Call (.Name "set" p) [] [] p2) pos) (Lu X.w i):=by
 refine(jM hN hi hx (GS hg zV) hs hf).imp ?_;intro D σ H aL;rfl';obtain⟨B,ρ,E,⟨G,fp,S⟩,h,M⟩:=aL;ac_rfl;intro c hc;have gc:G c=none:=S.ex.sub.free hc;have x:Ext G H G (upd H c (.ext (fq (fX X.w) c []))):=⟨.refl _,S.ex.sub.trans (aV hc _),aV hc _,λ_ _ z=>z⟩;refine M.nx _ h _ _ ⟨G,_,(S.grow x).Fp hm (f:= [c]) (.inr (.inr ⟨c,_,rfl,au,rfl, .inr ⟨rfl,_,rfl,iL,[],rfl, .nil⟩⟩)) (by simp) (λb hb=>?_) λb hb j _ hj=>?_⟩
 ·rw[iI] at hb;subst hb
  exact⟨S.ex.hh.free hc,(by rw[au];exact λz=>nomatch z),gc⟩
 ·rw[iI] at hb;subst hb
  exact(S.nw j _ hj).2.1 hc
def PR(w:World)(md:List Nat)(m:Bool)(i:Nat)(te:aY):cx:=λE ρ=>∃ps,ρ[i]? =some (some (.x (.rE (fX w) ps)))/\te (Cj md m ρ) λd=>∃p,d=Rw p/\ps.length<=300/\E.nx (ρ.set i (some (.x (.rE (fX w) (Bo ps p)))))
theorem Ik(m:Bool)(i:Nat){x:Str}{px:Pos}(hu:X.A.units+64<cLine)(he:DE Z X e te)(hm:md.getD i 0=98:=by rfl)(hi:X.N[i]? =some x:=by rfl)(hv:j5 X.env.scope x:=by first|exact Or.inl rfl|exact Or.inr (Or.inl rfl) |exact Or.inr (Or.inr rfl))(hd:(x==("__debug__":Str))=false:=by decide)(dh:(x==("__classdict__":Str))=false:=by decide)
  (eV:attributeBase (.Name x px) "add" X.env (eval (.Name x px) X.env)=eval (.Name x px) X.env:=by rfl)
  (jg:((backTo aS (starEach [e] X.env)).all (λx=>!x.1)&&(backToKw aS (keywordEach [] X.env)).all (λx=>x.1.isSome)&&decide (([e]:List Expr).length+([]:List Keyword).length+(if ([]:List Keyword).isEmpty then 0 else 1)<30))=true:=by rfl)
  (dS:(apos.endLine==aS.line)=true:=by rfl) (hs:starEach [e] X.env=(false,eval e X.env)::starEach [] X.env:=by rfl) (eW:(backTo aS (starEach [] X.env)).any (·.1)=false:=by rfl)
  (j6:swapsWith (.Call (.Attribute (.Name x px) "add" apos) [e] [] aS) none pos.line X.env=pure false:=by rfl):
  DSt Z X md rn (.Expr (.Call (.Attribute (.Name x px) "add" apos) [e] [] aS) pos) (PR X.w md m i te):=by
 refine(jr (MF (b:=fX X.w) PySem.F.plainAttrs_set PySem.F.slot_set_add PySem.F.type_set_add (Jy hu) (pv i hi hv hd dh) (bV he dO hs) eV jg dS hs eW) j6).imp ?_;intro D σ H aL;rfl';obtain⟨B,ρ,E,⟨G,fp,S⟩,⟨ps,h1,h⟩,M⟩:=aL;ac_rfl;rfl';obtain⟨v0,jh,o0⟩:=S.at_ i _ h1;rw[hm] at o0;obtain⟨l,φ,rfl,hl,_,nd,es,rfl,pe⟩:=o0.xA;ac_rfl;refine⟨_,jh,⟨l,_,rfl,hl⟩,S.ev m h λd hd=>?_⟩;obtain⟨p,rfl,hz,hn⟩:=hd;refine⟨by cases m<;>trivial,λv G' H' S' x dv=>?_⟩
 rfl';obtain⟨c,rfl,hc⟩:=dv.OO;obtain⟨v1,Jb,o1⟩:=S'.at_ i _ h1;rw[jh] at Jb;ac_rfl;cases Option.some.inj Jb;rfl';rw[hm] at o1;obtain⟨l',φ',e',Gk,LO,oQ,mX,rfl,YB⟩:=o1.xA;cases e';ac_rfl;refine⟨l,c,mX,ps,p,rfl,rfl,x.sub _ _ hc,Gk,YB.mono x.sub,hz,λhp=>?_,λhp=>?_⟩
 ·rw[Bo,if_pos hp] at hn
  refine M.nx _ hn _ _ ⟨G',fp,?_⟩
  have e:ρ.set i (some (.x (.rE (fX X.w) ps)))=ρ:=by
   refine xj λj=>?_
   by_cases z:i=j
   ·subst z
    have dZ:=(cT.mp h1).1;rw[gF dZ,h1]
   ·rw[gG z]
  rw[e];exact S'
 ·rw[Bo,if_neg hp] at hn
  refine M.nx _ hn _ _ ⟨G',fp,S'.mut jh (b:=l) (by rw[LO];simp) ?_⟩
  rw[hm,LO];refine .inr (.inr ⟨l,_,rfl,au,rfl, .inr ⟨rfl,_,rfl,?_,_,rfl,YB.snoc hc⟩⟩);rw[gN];refine⟨oQ,by simp,λa ha b hb z=>hp ?_⟩
  rw[iI] at hb;rw[<-hb,<-z];exact ha
end
section
variable {Z:DC} {X:Cx} {md:List Nat} {rn:Nat} {a b:Expr} {pos:Pos} {ta:gq}
def Ur(md:List Nat)(i j:Nat)(ta:gq):cx:=λE ρ=>ta (cA md ρ) λds=>∃a b,ds= [a,b]/\E.nx ((ρ.set i (some a)).set j (some b))
theorem ES(i j:Nat){x y:Str}{px py pt:Pos}{kt k2 D9}(hc:X.calm=true)(hN:X.N.Nodup)(ha:DA Z X [a,b] ta)(hi:X.N[i]? =some x:=by rfl)(hj:X.N[j]? =some y:=by rfl)(LP:i≠j:=by decide)(hm:md.getD i 0=0:=by rfl)(hm2:md.getD j 0=0:=by rfl)
  (hx:X.env.scope.names.lookup x=some .local:=by rfl) (hy:X.env.scope.names.lookup y=some .local:=by rfl)
  (hw:swappedStores [.Tuple [.Name x px, .Name y py] kt pt] (.Tuple [a,b] k2 D9) X.env=pure (some [x,y]):=by rfl)
  (hs:swapsWithSole [.Tuple [.Name x px, .Name y py] kt pt] (.Tuple [a,b] k2 D9) pos.line X.env=pure false:=by rfl):
  DSt Z X md rn (.Assign [.Tuple [.Name x px, .Name y py] kt pt] (.Tuple [a,b] k2 D9) pos) (Ur md i j ta):=by
 refine(MS hc hN hi hj LP hx hy ha hw hs).imp ?_;intro D σ H aL;rfl';obtain⟨B,ρ,E,⟨G,fp,S⟩,h,M⟩:=aL;ac_rfl;refine⟨G,cA md ρ,_,S.ex.sub,S.mW,h,?_⟩;rintro _ ⟨a,b,rfl,hn⟩ vs G' H' x bu;obtain⟨v,u,rfl,d1,d2⟩:=bu.Af;exact⟨v,u,rfl,M.nx _ hn _ _ ⟨G',_,((S.grow x).ph hm d1).ph hm2 d2⟩⟩
end
section
variable {pr:Program} {wd:World} {A:Around} {R:Result->Shared->Prop} {AD:Addr} {cC tG:List Addr} {n:Nat} {Pv:Nat->Value->Prop} {Sv:Nat->Heap->Prop}
def Cw(pr:Program)(wd:World)(A:Around)(T:Heap->Prop)(Pv:Nat->Value->Prop)(bt:Nat->Nat->Bool):Prop:=
 ∀i j u v (s:Shared) (Q:Value->Shared->Prop) (E:Value->Shared->Prop),T s.heap->Pv i u->Pv j v->Q (.bool (bt i j)) s->wpAny (model pr wd) A (richCompare .Lt u v) Q E s
theorem DP(wk:Walks pr wd A.in1 AD cC tG n Pv Sv)(bt:Nat->Nat->Bool)(T:Heap->Prop)(cmp:Cw pr wd A.in1 T Pv bt)(L:Addr)(nL:L∉cC)
  (kT:∀h h':Heap,T h->(∀b o,b∉tG->b≠L->h.get? b=some o->h'.get? b=some o)->T h'):
  ∀(d j:Nat)(s:Shared)(best:Value)(c:Nat),n-(j+1)=d->j+1<=n->Sv (j+1) s.heap->T s.heap->Pv (argBest bt j) best->
  s.heap.get? L=some {cls:= .type "list",dict:=none,data:= .seq #[best,best] c,slots:= #[]}->
  (∀v h' t,Pv (argBest bt (n-1)) v->(∀b o,b∉tG->b≠L->s.heap.get? b=some o->h'.get? b=some o)->R (.ok (.ret v)) {s with heap:=h',toks:=t})->
  codeAny (model pr wd) A (.builtin "min.loop" ⟨[.ref AD, .none, .ref L],[]⟩) R s:=by
 have nW:L∉tG:=λh=>nL (wk.sub _ h);have nm:(toString "min"++toString ".loop":String)="min.loop":=by decide
 intro d
 induction d with
 |zero=>
  intro j s best c hd hj q0 t0 pb hL fin;have en:j+1=n:=by omega
  refine codeAny_builtin PySem.F.entry_min_loop ?_;rw[Around.under_plainId PySem.F.plain_min_loop _];refine wpAny_bind (wpAny_seqItems hL rfl ?_);refine wpAny_bind (wpAny_tryCatch (wk.done s _ _ (en▸q0) λh1 t1 k1=>?_));refine wpAny_bind ?_;refine wpAny_updateSeq (k1 L _ nW hL) rfl (wpAny_bind (wpAny_letGo (wpAny_pure ?_)));exact fin best _ t1 (by rw[<-en];exact pb) λb o nb nl e=>(Heap.get?_update_other _ _ (Ne.symm nl)).trans (k1 b o nb e)
 |succ d ih=>
  intro j s best c hd hj q0 t0 pb hL fin;have lt:j+1<n:=by omega
  refine codeAny_builtin PySem.F.entry_min_loop ?_;rw[Around.under_plainId PySem.F.plain_min_loop _];refine wpAny_bind (wpAny_seqItems hL rfl ?_);refine wpAny_bind (wpAny_tryCatch (wk.item (j+1) s _ _ lt q0 λv h1 t1 pv q1 k1=>?_));have F9:=k1 L _ nW hL;have dP:T h1:=kT _ _ t0 λb o nb _ e=>k1 b o nb e;show wpAny _ A.in1 ((tryCatch (holding [v,v] (richCompare .Lt v best>>=_)) _)>>=_) _ _ _;refine wpAny_bind (wpAny_tryCatch (wpAny_holding (wpAny_bind (cmp (j+1) (argBest bt j) v best _ _ _ dP pv pb ?_))));refine wpAny_bind (wpAny_holding (wpAny_truthy_bool ?_));refine wpAny_bind (wpAny_letGo (wpAny_pure ?_));cases eb:bt (j+1) (argBest bt j) with
  |true=>
   simp only[if_true];refine wpAny_bind ?_;refine wpAny_updateSeq F9 rfl (wpAny_bind (wpAny_letGo ?_));rw[nm];refine wpAny_pure ⟨plainId_quiet PySem.F.plain_min_loop _,ih (j+1) _ v _ (by omega) lt (wk.frame _ _ _ q1 λb hb o e=>?_) (kT _ _ dP λb o _ nl e=>?_) ?_ (Heap.get?_update_self _ F9 rfl) λv2 h2 t2 p2 k2=>?_⟩
   ·exact(Heap.get?_update_other _ _ (λz:L=b=>nL (z▸hb))).trans e
   ·exact(Heap.get?_update_other _ _ (Ne.symm nl)).trans e
   ·simp only[argBest,eb,if_true];exact pv
   ·exact fin v2 h2 t2 p2 λb o nb nl e=>k2 b o nb nl ((Heap.get?_update_other _ _ (Ne.symm nl)).trans (k1 b o nb e))
  |false=>
   simp only[gL,if_false];refine wpAny_bind (wpAny_letGo ?_);rw[nm];refine wpAny_pure ⟨plainId_quiet PySem.F.plain_min_loop _,ih (j+1) _ best c (by omega) lt q1 dP ?_ F9 λv2 h2 t2 p2 k2=>?_⟩
   ·simp only[argBest,eb,gL,if_false];exact pb
   ·exact fin v2 h2 t2 p2 λb o nb nl e=>k2 b o nb nl (k1 b o nb e)
theorem DM(wk:Walks pr wd A.in1 AD cC tG n Pv Sv)(bt:Nat->Nat->Bool)(T:Heap->Prop)(cmp:Cw pr wd A.in1 T Pv bt)(L:Addr)(nL:L∉cC)
  (kT:∀h h':Heap,T h->(∀b o,b∉tG->b≠L->h.get? b=some o->h'.get? b=some o)->T h') (hn:0<n) {s:Shared} {c:Nat} (q0:Sv 0 s.heap) (t0:T s.heap)
  (hL:s.heap.get? L=some {cls:= .type "list",dict:=none,data:= .seq #[] c,slots:= #[]})
  (fin:∀v h' t,Pv (argBest bt (n-1)) v->(∀b o,b∉tG->b≠L->s.heap.get? b=some o->h'.get? b=some o)->R (.ok (.ret v)) {s with heap:=h',toks:=t}):
  codeAny (model pr wd) A (.builtin "min.loop" ⟨[.ref AD, .none, .ref L],[]⟩) R s:=by
 have nW:L∉tG:=λh=>nL (wk.sub _ h);have nm:(toString "min"++toString ".loop":String)="min.loop":=by decide
 refine codeAny_builtin PySem.F.entry_min_loop ?_;rw[Around.under_plainId PySem.F.plain_min_loop _];refine wpAny_bind (wpAny_seqItems hL rfl ?_);refine wpAny_bind (wpAny_tryCatch (wk.item 0 s _ _ hn q0 λv h1 t1 pv q1 k1=>?_));have F9:=k1 L _ nW hL;have dP:T h1:=kT _ _ t0 λb o nb _ e=>k1 b o nb e;show wpAny _ A.in1 (updateSeq L (λ_=> #[v,v])>>=_) _ _ _;refine wpAny_bind ?_;refine wpAny_updateSeq F9 rfl ?_;rw[nm];refine wpAny_pure ⟨plainId_quiet PySem.F.plain_min_loop _,DP wk bt T cmp L nL kT _ 0 _ v _ rfl hn (wk.frame _ _ _ q1 λb hb o e=>?_) (kT _ _ dP λb o _ nl e=>?_) pv (Heap.get?_update_self _ F9 rfl) λv2 h2 t2 p2 k2=>?_⟩
 ·exact(Heap.get?_update_other _ _ (λz:L=b=>nL (z▸hb))).trans e
 ·exact(Heap.get?_update_other _ _ (Ne.symm nl)).trans e
 ·exact fin v2 h2 t2 p2 λb o nb nl e=>k2 b o nb nl ((Heap.get?_update_other _ _ (Ne.symm nl)).trans (k1 b o nb e))
end
section
variable {pr:Program} {wd:World} {A:Around} {E:Value->Shared->Prop} {s:Shared}
theorem GF{x:Value}{Q:Value->Shared->Prop}(T:Heap->Prop)
  (h:wpAny (model pr wd) A.in1 (pyIter x) (λit s2=>∃AD cC tG n Pv Sv bt,it= .ref AD/\Walks pr wd A.in1 AD cC tG n Pv Sv/\Sv 0 s2.heap/\(∀b∈cC,b<s2.heap.objs.size)/\0<n/\Cw pr wd A.in1 T Pv bt/\T s2.heap/\
   (∀h h':Heap,T h->(∀b o,b∉tG->b≠s2.heap.objs.size->h.get? b=some o->h'.get? b=some o)->T h')/\
   ∀v h' tk,Pv (argBest bt (n-1)) v->(∀b o,b∉tG->s2.heap.get? b=some o->h'.get? b=some o)->Q v {s2 with heap:=h',toks:=tk}) E s):
  wpAny (model pr wd) A (call (.builtin "min") [x]) Q E s:=by
 have nm:(toString "min"++toString ".loop":String)="min.loop":=by decide
 refine call_function_tree PySem.F.kind_min PySem.F.plain_min PySem.F.entry_min (PySem.F.args_min1 _) ?_;show wpAny _ A.in1 (Builtin.Builtins.bindParams "min" ["key","default"] 0 ⟨[],[]⟩>>=_) _ _ s;refine wpAny_bind (wpAny_of_eq (rfl:Builtin.Builtins.bindParams "min" ["key","default"] 0 ⟨[],[]⟩=pure [none,none]) ?_);refine wpAny_bind (wpAny_pure ?_);refine wpAny_bind (wpAny_mono h (λit s2 h2=>?_) λ_ _ e=>e);rfl';obtain⟨AD,cC,tG,n,Pv,Sv,bt,rfl,wk,q0,hf,hn,cmp,t0,kT,hQ⟩:=h2;ac_rfl;refine wpAny_bind (wpAny_newObj_type ?_);have nL:s2.heap.objs.size∉cC:=λhm=>gI _ (hf _ hm);rw[nm];refine wpAny_pure ⟨plainId_quiet PySem.F.plain_min_loop _,DM wk bt T cmp s2.heap.objs.size nL kT hn (wk.frame _ _ _ q0 λb _ o e=>Heap.get?_push_of_some _ e) (kT _ _ t0 λb o _ _ e=>Heap.get?_push_of_some _ e) (Heap.get?_push_size _ rfl) λv h' tk hP hk=>?_⟩;exact hQ v h' tk hP λb o hbw e=>hk b o hbw (cH (Heap.lt_size e)) (Heap.get?_push_of_some _ e)
end
theorem tJ(bt:Nat->Nat->Bool):∀k,argBest bt k<=k
 |0=>br _
 |k+1=>by
  unfold argBest
  split
  ·exact br _
  ·exact Nat.le_succ_of_le (tJ bt k)
theorem qr{f:Nat->List Int}:∀k i,i<=k->HT.lexLt (f i) (f (argBest (λi j=>HT.lexLt (f i) (f j)) k))=false
 |0,i,h=>by
  obtain rfl:i=0:=by omega
  exact qQ _
 |k+1,i,h=>by
  have ih:=qr (f:=f) k;unfold argBest
  by_cases c:HT.lexLt (f (k+1)) (f (argBest (λi j=>HT.lexLt (f i) (f j)) k))=true
  ·rw[if_pos c]
   by_cases z:i=k+1
   ·subst z;exact qQ _
   ·have:=ih i (by omega)
    cases e:HT.lexLt (f i) (f (k+1)) with
    |false=>rfl
    |true=>rw[uR _ _ _ e c] at this;cases this
  ·rw[if_neg c]
   by_cases z:i=k+1
   ·subst z;exact Ct.mpr c
   ·exact ih i (by omega)
section
variable {X:Cx} {Z:DC}
theorem CF(hc:X.calm=true)(hu:X.A.units+64<cLine):cU X (.builtin "min") (λxs H Q=>∃(p:Addr)(L:List (Addr×List Int)),xs= [.ref p]/\H p=some (.lst (L.map λe=>V.ref e.1))/\(∀e∈L,H e.1=some (.tup (e.2.map V.int)))/\L≠ []/\
  ∀e∈L,(∀f∈L,HT.lexLt f.2 e.2=false)->Q (.ref e.1) H):=by
 intro pins s σ H xs us Q I rv h;rfl';obtain⟨p,L,rfl,hp,hL,VX,q⟩:=h;obtain⟨u,rfl,ru⟩:=rv.one;subst ru;obtain⟨its,r,pl,hz⟩:=I.list (bX.of hp);have hl:=r.length;rw[aI] at hl;have aay:0<L.length:=Cr.mpr VX;ac_rfl
 have xM:∀i:Nat,(hi:i<L.length)->its[i]? =some (.ref L[i].1):=λi hi=>by
  obtain⟨w,hw,tF⟩:=r.get (i:=i) (x:= .ref L[i].1) (by rw[cL,bL hi];rfl)
  subst tF;exact hw
 refine GF (λh=>∀b o,s.heap.get? b=some o->h.get? b=some o) (wpAny_pyIter_list pl.isList ?_)
 have sO:p≠s.heap.objs.size:=by
  obtain⟨o,ho,_⟩:=pl.isList;exact cH (Heap.lt_size ho)
 let f:Nat->List Int:=λi=>(L.getD i (0,[])).2
 refine⟨_,_,_,its.toArray.size,_,_,λi j=>HT.lexLt (f i) (f j),rfl,Walks.list (show X.A.in1.handled=none from I.ok.hd hc) s.heap.objs.size p sO its.toArray,⟨⟨_,Heap.get?_push_size _ rfl,rfl,rfl⟩,pl.isList.push _⟩,?_,?_,?_,λb o e=>Heap.get?_push_of_some _ e,?_,?_⟩
 ·intro b hb
  have:b=s.heap.objs.size\/b=p:=by simpa using hb
  obtain⟨o,ho,_⟩:=pl.isList;have lt:=Heap.lt_size ho;have e:(s.heap.push {cls:= .type "list_iterator",data:= .fields #[.ref p, .int 0 0]}).objs.size=s.heap.objs.size+1:=by simp[Heap.push]
  rcases this with rfl|rfl
  ·exact Nat.lt_of_lt_of_eq (Cv _) e.symm
  ·exact Nat.lt_of_lt_of_eq (Nat.lt_succ_of_lt lt) e.symm
 ·rw[fe];omega
 ·intro i j u v s' Q' E' hT Dh vH hq
  have Di:its[i]? =some u:=by simpa using Dh
  have vI:its[j]? =some v:=by simpa using vH
  have hi:i<L.length:=by have:=(cT.mp Di).1;omega
  have hj:j<L.length:=by have:=(cT.mp vI).1;omega
  rw[xM i hi] at Di;rw[xM j hj] at vI;obtain rfl:=Option.some.inj Di;obtain rfl:=Option.some.inj vI;rfl';obtain⟨t1,r1,p1,_⟩:=I.tuple (eB.of (hL L[i] (kZ hi)));obtain⟨t2,r2,p2,_⟩:=I.tuple (eB.of (hL L[j] (kZ hj)));obtain⟨o1,g1,c1⟩:=p1;obtain⟨o2,g2,c2⟩:=p2;have i1:IntsAre t1.toArray.toList L[i].2:=intsAre_of r1;have i2:IntsAre t2.toArray.toList L[j].2:=intsAre_of r2;ac_rfl
  have ef:∀k,(hk:k<L.length)->f k=L[k].2:=λk hk=>by
   show(L.getD k (0,[])).2=_;rw[bb,bL hk];rfl
  have De:Q' (.bool (HT.lexLt L[i].2 L[j].2)) s':=by rw[<-ef i hi,<-ef j hj];exact hq
  exact HT.Bz (A:=X.A.in1) ⟨o1,hT _ _ g1,c1⟩ ⟨o2,hT _ _ g2,c2⟩ i1 i2 (by simp only[Around.in1_units];omega) De
 ·intro h h' hT hk b o e
  have lt:=Heap.lt_size e;refine hk b o ?_ ?_ (hT b o e)
  ·intro hm
   have:b=s.heap.objs.size:=by simpa using hm
   exact cH lt this
  ·simp only[Heap.push,Array.size_push]
   exact cH (Nat.lt_succ_of_lt lt)
 ·intro v h' tk hP kk
  have kept:∀b o,s.heap.get? b=some o->h'.get? b=some o:=λb o e=>kk b o (by simp;exact cH (Heap.lt_size e)) (Heap.get?_push_of_some _ e)
  have hk:=tJ (λi j=>HT.lexLt (f i) (f j)) (its.toArray.size-1);generalize hb:argBest (λi j=>HT.lexLt (f i) (f j)) (its.toArray.size-1)=k at hP hk;rw[fe] at hk;have QM:k<L.length:=by omega
  have vI:its[k]? =some v:=by simpa using hP
  rw[xM k QM] at vI;obtain rfl:=Option.some.inj vI;refine⟨.ref L[k].1,H,I.kept kept,rfl,q L[k] (kZ QM) λe he=>?_⟩;obtain⟨i,hi,rfl⟩:=jB.mp he
  have:=qr (f:=f) (its.toArray.size-1) i (by rw[fe];omega)
  rw[hb] at this
  have ef:∀k,(hk:k<L.length)->f k=L[k].2:=λk hk=>by
   show(L.getD k (0,[])).2=_;rw[bb,bL hk];rfl
  rw[ef i hi,ef k QM] at this;exact this
def tupI(l:List Int):D:= .tup (l.map D.int)
def O8:bP:=λds P=>∃ls:List (List Int),ds= [.lst (ls.map tupI)]/\ls≠ []/\∀m∈ls,(∀n∈ls,HT.lexLt n m=false)->P (tupI m)
theorem yk{G:Hp}:∀{vs:List V}{ns:List (List Int)},DvAll Z G vs (ns.map tupI)->∃L:List (Addr×List Int),vs=L.map (λe=>V.ref e.1)/\L.map (·.2)=ns/\∀e∈L,G e.1=some (.tup (e.2.map V.int))
 |vs,[],h=>by rw[h.DX];exact⟨[],rfl,rfl,λp hp=>by cases hp⟩
 |vs,n::ns,h=>by
  rfl';obtain⟨v,us,rfl,a,as⟩:=h.uT;obtain⟨L,rfl,h2,h3⟩:=yk as;obtain⟨p,xs,rfl,hp,e⟩:=a.lG;rw[qE e] at hp;ac_rfl;refine⟨(p,n)::L,rfl,by rw[<-h2];rfl,λq hq=>?_⟩
  rcases cD.mp hq with rfl|hq
  ·exact hp
  ·exact h3 q hq
theorem HQ(hc:X.calm=true)(hu:X.A.units+64<cLine):cU X (.builtin "min") (jm Z O8):=by
 refine(CF hc hu).imp ?_;intro xs H Q aL;rfl';obtain⟨G,ds,P,s,dv,⟨ls,rfl,sO,hp⟩,q⟩:=aL;ac_rfl;rfl';obtain⟨v,rfl,a⟩:=dv.ofOne;obtain⟨p,vs,rfl,h,e⟩:=a.iq;obtain⟨L,rfl,rfl,h3⟩:=yk e;ac_rfl;refine⟨p,L,rfl,s _ _ h,λx hx=>s _ _ (h3 x hx),λz=>sO (by rw[z];rfl),λx hx hm=>?_⟩
 exact q _ (hp x.2 (List.mem_map_of_mem hx) λn hn=>by
  obtain⟨y,hy,rfl⟩:=dE.mp hn;exact hm y hy) _ G H (.refl s) (.tup (h3 x hx) (.ints _))
end
end L2
namespace Wy
section
variable {α β:Type}
end
theorem F6{α:Type}(l:List α)(x d:α)(i j:Nat):(l.set i x).getD j d=if i=j/\i<l.length then x else l.getD j d:=by
 simp only[bb,gM]
 by_cases e:i=j
 ·subst e
  by_cases h:i<l.length
  ·rw[if_pos rfl,if_pos h,if_pos ⟨rfl,h⟩];rfl
  ·rw[if_pos rfl,if_neg h,if_neg (λz=>h z.2),eQ (by omega)]
 ·rw[if_neg e,if_neg (λz=>e z.1)]
end Wy
namespace L2
open PySem PySem.Spec PyProof.Rows
section
variable {Z:DC} {X:Cx} {B:Bs} {md:List Nat} {rn:Nat} {ρ:DN} {σ:St} {H G:Hp} {fp:Nat->List Addr} {e k:Expr} {pos p2 apos aS:Pos} {tp te:aY} {t:gu}
def Vm(t:gu):gu:=λρ P=>t ρ λa=>P [.lst a]
theorem Ly(ha:DF Z X 1 e t)(hs:starEach [e] X.env=(false,eval e X.env)::starEach [] X.env:=by rfl):DF Z X 2 (.List [e] pos) (Vm t):=by
 refine(lJ (bV ha dO hs)).imp ?_;intro σ H Q aL;rfl';obtain⟨G,ρ,P,s,en,h,q⟩:=aL;ac_rfl;refine⟨G,ρ,_,s,en,h,λl1 h1 v1 f1 G1 H1 x1 o1 DR vX=>⟨by show 1<=sizeLine;decide,λp hp=>?_⟩⟩
 have n1:∀b∈f1,b≠p:=λb hb z=>(vX b hb).2.1 (by rw[z];exact hp)
 refine q _ h1 (.ref p) (p::(f1++ [])) G1 _ (x1.side hp) (.inl ⟨p,[v1],_,_,rfl,rfl,au,rfl, .cons (o1.keep (.refl _) λb hb=>aw (n1 b hb)) .nil⟩) ?_ ?_
 ·rw[pD,eI]
  exact⟨λz=>n1 p z rfl,DR⟩
 ·intro b hb
  rw[pD] at hb
  rcases cD.mp hb with rfl|hb
  ·exact⟨x1.hh.free hp,(by rw[au];exact λz=>nomatch z),x1.sub.free hp⟩
  ·exact⟨(vX b hb).1,(by rw[aw (n1 b hb)];exact(vX b hb).2.1),(vX b hb).2.2⟩
theorem Ih(n:Nat):DF Z X (n+1) (.List [] pos) (OC cW):=by
 refine(lJ dO).imp ?_;rintro σ H Q ⟨G,ρ,P,s,en,⟨_,hp⟩,q⟩;refine⟨by show 0<=sizeLine;decide,λp hn=>?_⟩
 refine q _ hp (.ref p) [p] G _ ((Ext.refl s).side hn) (.inl ⟨p,[],[],[],rfl,rfl,au,rfl, .nil⟩) (by simp) λb hb=>?_
 have:b=p:=by simpa using hb
 subst this;exact⟨hn,(by rw[au];exact λz=>nomatch z),s.free hn⟩
theorem SIx.Xd{i:Nat}{v:V}{d':D}{b:Addr}{c:HO}{f':List Addr}(S:SIx Z B md ρ σ H G fp)(hi:σ[i]? =some (some v))(hb:b∈fp i)(o:Own Z G (upd H b c) (md.getD i 0) v d' f')(nd:f'.Nodup)(nw:∀x∈f',B.H₀ x=none/\H x≠none/\G x=none)(ap:∀x∈f',∀j,j≠i->x∉fp j):
  SIx Z B md (ρ.set i (some d')) σ (upd H b c) G (λj=>if j=i then f' else fp j) where
 ex:=by
  obtain⟨h1,h2,h3⟩:=S.nw i b hb;exact⟨S.ex.gg,λx u e=>by rw[aw (aU e h3)];exact S.ex.sub _ _ e,λx u e=>by rw[aw (aU e h1)];exact S.ex.hh _ _ e,S.ex.off⟩
 fl:=S.fl
 len:=by rw[cM];exact S.len
 at_:=λj w h=>by
  by_cases z:i=j
  ·subst z
   by_cases hl:i<ρ.length
   ·rw[gF hl] at h
    cases Option.some.inj h;exact⟨v,hi,by rw[if_pos rfl];exact o⟩
   ·rw[xb (gH hl),eQ (gH hl)] at h;cases h
  ·rw[gG z] at h
   obtain⟨u,hu,ow⟩:=S.at_ j w h;exact⟨u,hu,by rw[if_neg (Ne.symm z)];exact ow.keep (.refl _) λx hx=>aw λq=>S.ap i j b z hb (by rw[<-q];exact hx)⟩
 nd:=λj=>by split;exact nd;exact S.nd j
 ap:=λj k b ne hj hk=>by
  split at hj
  ·next z=>
   rw[if_neg (λw=>ne (z.trans w.symm))] at hk;exact ap b hj k (λw=>ne (z.trans w.symm)) hk
  ·next z=>
   split at hk
   ·exact ap b hk j z hj
   ·exact S.ap j k b ne hj hk
 nw:=λj x hx=>by
  have go:B.H₀ x=none/\H x≠none/\G x=none:=by
   split at hx
   ·exact nw x hx
   ·exact S.nw j x hx
  refine⟨go.1,?_,go.2.2⟩
  by_cases z:x=b
  ·rw[z,au];exact λq=>nomatch q
  ·rw[aw z];exact go.2.1
def Ln(md:List Nat)(i:Nat)(t:gu):cx:=λE ρ=>∃jC,ρ[i]? =some (some (.lst jC))/\t (cA md ρ) λl=>jC.length<sizeLine/\E.nx (ρ.set i (some (.lst (jC++ [.lst l]))))
theorem FX(i:Nat){x:Str}{px:Pos}(he:DF Z X 1 e t)(hm:md.getD i 0=2:=by rfl)(hi:X.N[i]? =some x:=by rfl)(hv:j5 X.env.scope x:=by first|exact Or.inl rfl|exact Or.inr (Or.inl rfl) |exact Or.inr (Or.inr rfl))(hd:(x==("__debug__":Str))=false:=by decide)(dh:(x==("__classdict__":Str))=false:=by decide)
  (eV:attributeBase (.Name x px) "append" X.env (eval (.Name x px) X.env)=eval (.Name x px) X.env:=by rfl)
  (jg:((backTo aS (starEach [e] X.env)).all (λx=>!x.1)&&(backToKw aS (keywordEach [] X.env)).all (λx=>x.1.isSome)&&decide (([e]:List Expr).length+([]:List Keyword).length+(if ([]:List Keyword).isEmpty then 0 else 1)<30))=true:=by rfl)
  (dS:(apos.endLine==aS.line)=true:=by rfl) (hs:starEach [e] X.env=(false,eval e X.env)::starEach [] X.env:=by rfl) (eW:(backTo aS (starEach [] X.env)).any (·.1)=false:=by rfl)
  (j6:swapsWith (.Call (.Attribute (.Name x px) "append" apos) [e] [] aS) none pos.line X.env=pure false:=by rfl):
  DSt Z X md rn (.Expr (.Call (.Attribute (.Name x px) "append" apos) [e] [] aS) pos) (Ln md i t):=by
 refine(jr (qc PySem.F.plainAttrs_list PySem.F.slot_list_append PySem.F.type_list_append jn (pv i hi hv hd dh) (bV he dO hs) eV jg dS hs eW) j6).imp ?_;intro Dn σ H aL;rfl';obtain⟨B,ρ,E,⟨G,fp,S⟩,⟨jC,h1,h⟩,M⟩:=aL;ac_rfl;rfl';obtain⟨v0,jh,o⟩:=S.at_ i _ h1;rw[hm] at o;obtain⟨T,ys,Vb,cC,rfl,e0,hT,hf,ol⟩:=o.lst;cases e0;ac_rfl;refine⟨_,jh,ty_list hT,G,_,_,S.ex.sub,S.mW,h,?_⟩;rintro l ⟨hz,hn⟩ v f G' H' x ow nd nw;have S':=S.grow x;have hT':=x.hh _ _ hT
 have Q8:∀b∈cC,H' b=H b:=λb hb=>by
  cases z:H b with
  |none=>exact absurd z (S.nw i b (by rw[hf];exact b8 _ hb)).2.1
  |some o=>exact x.hh _ _ z
 have BF:=S.nd i;rw[hf] at BF;obtain⟨nT,JA⟩:=eI.mp BF
 have fT:T∉f:=λz=>by
  have:=(nw T z).1
  rw[hT] at this;cases this
 have ff:∀b∈cC,b∉f:=λb hb z=>(S.nw i b (by rw[hf];exact b8 _ hb)).2.1 (nw b z).1
 have upT:∀b,b≠T->upd H' T (.lst (ys++ [v])) b=H' b:=λb hb=>aw hb;refine⟨T,ys,v,rfl,rfl,hT',by rw[ol.length];exact hz,M.nx _ hn _ _ ⟨G',_,S'.Xd (b:=T) (f':=T::(cC++f)) jh (by rw[hf];exact cw ..) ?_ ?_ ?_ ?_⟩⟩
 ·rw[hm]
  refine .inl ⟨T,ys++ [v],_,cC++f,rfl,rfl,au,rfl,bT.snoc (ol.imp λv d g hb r=>r.keep x.gg λb q=>?_) (ow.keep (.refl _) λb hb=>upT b λz=>fT (by rw[<-z];exact hb))⟩
  rw[upT b λz=>nT (by rw[<-z];exact hb b q)]
  exact Q8 b (hb b q)
 ·rw[eI,gN]
  exact⟨λz=>(fR.mp z).elim nT fT,JA,nd,λa ha b hb z=>ff a ha (by rw[z];exact hb)⟩
 ·intro b hb
  rcases cD.mp hb with rfl|hb
  ·exact S'.nw i b (by rw[hf];exact cw ..)
  ·rcases fR.mp hb with hb|hb
   ·exact S'.nw i b (by rw[hf];exact b8 _ hb)
   ·exact⟨S.ex.hh.free (nw b hb).1,(nw b hb).2⟩
 ·intro b hb j hj z
  have go:b∈fp i\/b∈f:=by
   rw[hf]
   rcases cD.mp hb with rfl|hb
   ·exact .inl (cw ..)
   ·exact(fR.mp hb).imp (b8 _) id
  rcases go with go|go
  ·exact S.ap j i b hj z go
  ·exact(S.nw j b z).2.1 (nw b go).1
theorem yT{H:Hp}:∀{ys:List V}{L:List (List Nat)}{cC:List Addr},bT (Own Z G H 1) ys (L.map av) cC->∃A:List (Addr×List Nat),ys=A.map (λe=>V.ref e.1)/\A.map (·.2)=L/\O5 H A/\cC=A.map (·.1)
 |_,[],_, .nil=>⟨[],rfl,rfl,(λp hp=>by cases hp),rfl⟩
 |_,r::L,_, .cons a as=>by
  rfl';obtain⟨A,h1,h2,h3,h4⟩:=yT as;obtain⟨p,xs,ds,cC,rfl,e,ha,hf,ol⟩:=a.one;obtain⟨dv,rfl⟩:=ol.flat;have e:(r.map ag)=ds:=by cases e;rfl
  subst e;ac_rfl
  have hx:xs=(mL r).map V.int:=by
   have e:r.map ag=(mL r).map D.int:=by unfold mL;rw[dX];rfl
   rw[e] at dv;exact qE dv
  rw[hx] at ha;refine⟨(p,r)::A,by rw[h1];rfl,by rw[<-h2];rfl,λq hq=>?_,by rw[hf,h4];rfl⟩
  rcases cD.mp hq with rfl|hq
  ·exact ha
  ·exact h3 q hq
theorem y9{H:Hp}:∀{A:List (Addr×List Nat)},O5 H A->bT (Own Z G H 1) (A.map λe=>V.ref e.1) ((A.map (·.2)).map av) (A.map (·.1))
 | [],_=> .nil
 |x::A,h=>by
  have e:(x.2.map ag)=(mL x.2).map D.int:=by unfold mL;rw[dX];rfl
  refine bT.cons (f:= [x.1]) (.inl ⟨x.1,_,_,[],rfl,rfl,h x (cw ..),rfl,?_⟩) (y9 λp hp=>h p (b8 _ hp));rw[e];exact(DvAll.ints _).own
end
section
variable {X:Cx}
theorem Mg(L:List (Addr×List Nat)):KS.Ord λi j=>HT.lexLt (mL (L.getD i (0,[])).2) (mL (L.getD j (0,[])).2) where
 irr:=λi=>qQ _
 tr:=λi j k h h'=>uR _ _ _ h h'
 neg:=λi j k h=>Jo _ _ _ h
theorem uk(hu:X.A.units+64<cLine):cU X (.builtin "sorted") (λxs H Q=>∃(p:Addr)(L:List (Addr×List Nat)),xs= [.ref p]/\bX X.K H p (L.map λe=>V.ref e.1)/\O5 H L/\L.length<64/\
  ∀(q:Addr)(M:List (Addr×List Nat)),H q=none->M.Perm L->(M.map (·.2)).Pairwise kI->Q (.ref q) (upd H q (.lst (M.map λe=>V.ref e.1)))):=by
 intro pins s σ H xs us Q I rv h;rfl';obtain⟨p,L,rfl,hp,hL,hz,q⟩:=h;obtain⟨u,rfl,ru⟩:=rv.one;subst ru;obtain⟨its,r,pl,_⟩:=I.list hp;have hl:=r.length;rw[aI] at hl;have dS:64<=sizeLine:=by decide
 ac_rfl
 have ei:its=L.map λe=>Value.ref e.1:=by
  have:=qo (as:=L.map (·.1)) (us:=its) (by rw[dX];exact r)
  rw[this,dX];rfl
 by_cases h2:L.length<2
 ·refine KS.pj pl.isList (by omega) ?_
  obtain⟨e,he⟩:=sortedAll_at s.heap its its.toArray;have fr:H (s.heap.objs.size+1)=none:=I.hok.fresh (pE _);refine⟨.ref (s.heap.objs.size+1),_,I.laid (t':=s.toks) (λb o hb=>sortedAll_old hb) (pE _) (o:= .lst (L.map λe=>V.ref e.1)) ⟨by rw[aI];omega,its,e,r,he⟩,rfl,q _ L fr (.refl _) ?_⟩
  match L,h2 with
  | [],_=>exact .nil
  | [_],_=>exact List.pairwise_singleton _ _
 ·obtain⟨m,F⟩:=I.fr
  have N:=yO (g:=X.base) (h:=s.heap) (L:=X.env.locals);have nL:∀b u,H b=some u->b≠X.env.locals:=λb u e z=>by rw[z,I.free] at e;cases e
  refine PySem.W.kas_sorted (T:= .type "list") F N pl.isList (by omega) (by omega) (λh1 F1 N1 v hv=>?_) (by decide) λD e1 h' F' N' hD=>?_
  ·rw[ei] at hv
   rfl';obtain⟨e,he,rfl⟩:=dE.mp hv;obtain⟨Wo,r2,p2,_⟩:=I.list (bX.of (hL e he));obtain⟨o,ho,hc,_⟩:=p2.isList;ac_rfl
   have vG:h1.get? e.1=some o:=by
    cases qb:X.base.get? e.1 with
    |some u=>
     have:=I.bk e.1 u qb
     rw[ho] at this;cases this;exact F1.keep _ _ qb
    |none=>exact(N1 (e.1,o) (eX (nL _ _ (hL e he)) qb ho)).1
   rw[<-hc];exact(PySem.W.Looks.ld vG).andThen .now
  have kept:∀b o,b≠X.env.locals->s.heap.get? b=some o->h'.get? b=some o:=λb o hb e=>by
   cases qb:X.base.get? b with
   |some u=>
    have:=I.bk b u qb
    rw[e] at this;cases this;exact F'.keep b _ qb
   |none=>exact(N' (b,o) (b8 _ (eX hb qb e))).1
  have DK:∀i,i<L.length->∃items:Array Value,its.getD i Value.none= .ref (L.getD i (0,[])).1/\h'.IsList (L.getD i (0,[])).1 items/\IntsAre items.toList (mL (L.getD i (0,[])).2):=λi hi=>by
   have hm:L.getD i (0,[])∈L:=by
    rw[bb,bL hi];exact kZ hi
   rfl';obtain⟨Wo,r2,p2,_⟩:=I.list (bX.of (hL _ hm));obtain⟨o,ho,hc,n,hd⟩:=p2.isList;ac_rfl;refine⟨Wo.toArray,?_,⟨o,kept _ _ (nL _ _ (hL _ hm)) ho,hc,n,hd⟩,by simpa using intsAre_of r2⟩
   rw[ei,bb,cL,bb,bL hi];rfl
  have hn:its.length=L.length:=by omega
  rw[hn];rfl';obtain⟨π,Qj,pp,ps⟩:=KS.B0 (Mg L) (n:=L.length) (by omega)
  ac_rfl;refine KS.Et (lt:=λi j=>HT.lexLt (mL (L.getD i (0,[])).2) (mL (L.getD j (0,[])).2)) (n:=L.length) (λi j C hi hj hC=>?_) _ (KS.zd (by omega)) ?_
  ·obtain⟨i1,g1,l1,n1⟩:=DK i hi
   obtain⟨i2,g2,l2,n2⟩:=DK j hj;unfold PySem.W.kas_ask;rw[g1,g2,keyLt'_oneType];exact BI l1 l2 n1 n2 (by rw[Around.in1_units,Around.in1_units];omega) hC
  ·show PySem.W.KasFin _ _ _ _ _ _ _ _
   rw[Qj];refine PySem.W.KasFin.intro F' N' (.head λp hp=>cH (hD p hp)) λh2 c F2 N2=>?_
   have Dt:∀b o,b≠X.env.locals->s.heap.get? b=some o->h2.get? b=some o:=λb o hb e=>by
    cases qb:X.base.get? b with
    |some u=>
     have:=I.bk b u qb
     rw[e] at this;cases this;exact F2.keep b _ qb
    |none=>exact(N2 (b,o) (b8 _ (eX hb qb e))).1
   obtain⟨_,IE,Qu⟩:=N' (D,seqObj "list" #[] e1) cw
   have IG:s.heap.get? D=none:=by
    cases qd:s.heap.get? D with
    |none=>rfl
    |some o=>exact absurd (hD (D,o) (eX IE Qu qd)) (gI _)
   have ID:H D=none:=by
    cases qd:H D with
    |none=>rfl
    |some o=>exact absurd IE (λ_=>by
      obtain⟨o',ia⟩:=Fd (I.hok D o qd);rw[IG] at ia;cases ia)
   have Rh:∀m',s.heap.Ns X.env.locals m'->h2.Ns X.env.locals m':=λm' mI=>by
    rw[mI.eq_nsMap,<-F.ns.eq_nsMap];exact F2.ns
   have IH:(π.toList.map λi=>L.getD i (0,[])).Perm L:=vE pp;have IF:=(N2 (D,_) cw).1;refine⟨.ref D,_,I.Jl (t':=s.toks) Dt Rh IG ID (o:= .lst ((π.toList.map λi=>L.getD i (0,[])).map λe=>V.ref e.1)) ⟨by rw[aI,IH.length_eq];omega,(π.toList.map λi=>its.getD i Value.none),c,?_,IF⟩,rfl,q D _ ID IH ?_⟩
   ·have e:(π.toList.map λi=>its.getD i Value.none)=((π.toList.map λi=>L.getD i (0,[])).map (·.1)).map Value.ref:=by
     rw[dX,dX];refine List.map_congr_left λi hi=>?_;obtain⟨_,g,_,_⟩:=DK i (eJ.mp (pp.mem_iff.mp hi));exact g
    rw[e,show(λe:Addr×List Nat=>V.ref e.1)=V.ref∘(·.1) from rfl,<-dX];exact qh _
   ·rw[dX,pC]
    exact ps.imp λhle=>hle
end
section
variable {Z:DC} {X:Cx} {B:Bs} {md:List Nat} {rn:Nat} {ρ:DN} {σ:St} {H G:Hp} {fp:Nat->List Addr} {e k:Expr} {pos p2 apos aS:Pos} {tp te:aY} {t:gu}
def FR(i:Nat):cx:=λE ρ=>∃L:List (List Nat),ρ[i]? =some (some (.lst (L.map av)))/\L.length<64/\∀M:List (List Nat),M.Perm L->M.Pairwise kI->E.rt (.lst (M.map av))
theorem A5(i:Nat){x:Str}{px p:Pos}(hu:X.A.units+64<cLine)(hg:Gl X "sorted")(zV:X.mg "sorted"=none)(hm:md.getD i 0=2:=by rfl)(hi:X.N[i]? =some x:=by rfl)(hv:j5 X.env.scope x:=by first|exact Or.inl rfl|exact Or.inr (Or.inl rfl) |exact Or.inr (Or.inr rfl))(hd:(x==("__debug__":Str))=false:=by decide)(dh:(x==("__classdict__":Str))=false:=by decide)
  (hs:starEach [.Name x px] X.env=(false,eval (.Name x px) X.env)::starEach [] X.env:=by rfl) (eF:(backTo aS (starEach [] X.env)).any (·.1)=false:=by rfl):DSt Z X md 2 (.Return (some (.Call (.Name "sorted" p) [.Name x px] [] aS)) pos) (FR i):=by
 refine(rD (tu (uk hu) hg zV pH (bV (pv i hi hv hd dh) dO hs) (by decide) (by decide) hs eF)).imp ?_
 intro Dn σ H aL;rfl';obtain⟨B,ρ,E,⟨G,fp,S⟩,⟨L,h1,hz,h⟩,M⟩:=aL;ac_rfl;rfl';obtain⟨v0,jh,o⟩:=S.at_ i _ h1;rw[hm] at o;obtain⟨T,ys,Vb,cC,rfl,e0,hT,hf,ol⟩:=o.lst;cases e0;obtain⟨A,rfl,Vw,Vx,Vy⟩:=yT ol;have BF:=S.nd i;rw[hf] at BF;have hl:A.length=L.length:=by rw[<-Vw];simp
 ac_rfl;refine⟨_,jh,T,A,rfl,bX.of hT,Vx,by omega,λq N hn pm As=>?_⟩
 have Ri:=S.nw i;rw[hf] at Ri;have mem:∀b,b∈N.map (·.1)->b∈cC:=λb hb=>by rw[Vy];exact(pm.map _).mem_iff.mp hb
 have ne:∀b,b∈N.map (·.1)->b≠q:=λb hb z=>(Ri b (b8 _ (mem b hb))).2.1 (by rw[z];exact hn)
 refine M.rt _ (h (N.map (·.2)) (by rw[<-Vw];exact pm.map _) As) (.ref q) (q::N.map (·.1)) G _ (S.ex.side hn) (.inl ⟨q,_,_,_,rfl,rfl,au,rfl,y9 λp hp=>?_⟩) ?_ ?_
 ·rw[aw (ne p.1 (dE.mpr ⟨p,hp,rfl⟩))]
  exact Vx p (pm.mem_iff.mp hp)
 ·rw[eI]
  refine⟨λz=>ne q z rfl,((pm.map _).nodup_iff).mpr ?_⟩;rw[<-Vy];exact(eI.mp BF).2
 ·intro b hb
  rcases cD.mp hb with rfl|hb
  ·exact⟨S.ex.hh.free hn,(by rw[au];exact λz=>nomatch z),S.ex.sub.free hn⟩
  ·obtain⟨k1,k2,k3⟩:=Ri b (b8 _ (mem b hb))
   exact⟨k1,(by rw[aw (ne b hb)];exact k2),k3⟩
end
section
variable {Z:DC} {X:Cx}
def HK:bP:=λds P=>∃ns:List (Nat×Nat),ds= [.lst (ns.map pairD)]/\ns.length<64/\∀ms:List (Nat×Nat),ms.Perm ns->ms.Pairwise Wb.lexLe->P (.lst (ms.map pairD))
theorem vk(hu:X.A.units+64<cLine):cU X (.builtin "sorted") (jm Z HK):=by
 refine(xD hu).imp ?_;rintro xs H Q ⟨G,ds,P,s,dv,⟨ns,rfl,hl,hp⟩,q⟩;cases dv with
 |cons a as=>
  cases as;cases a with
  | @lst p g7 ds h e=>
   obtain⟨L,rfl,h2,h3⟩:=yj e;have hL:L.length=ns.length:=by rw[<-h2];simp
   refine⟨_,L,rfl,bX.of (s _ _ h),λp hp=>s _ _ (h3 p hp),by omega,λp M hn m1 m2=>?_⟩
   have pm:(M.map (·.2)).Perm ns:=by rw[<-h2];exact m1.map _
   have hM:FD (upd G p (.lst (M.map λe=>V.ref e.1))) M:=λx hx=>aV (s.free hn) _ _ _ (h3 x (m1.mem_iff.mp hx));exact q _ (hp _ pm m2) _ _ _ (.new s hn) (.lst au hM.dv)
end
end L2
namespace Wb
def j4(w:W)(d:Nat×Nat)(r:List (Nat×Nat)):Prop:=∃k,0<k/\fO w k d=d/\(∀j,0<j->j<k->fO w j d≠d)/\r=walk w d k
theorem kJ{w:W}{d e:Nat×Nat}{k:Nat}:e∈walk w d k↔∃i,i<k/\e=fO w i d:=by
 unfold walk;rw[dE]
 constructor
 ·rintro⟨i,hi,rfl⟩;exact⟨i,eJ.mp hi,rfl⟩
 ·rintro⟨i,hi,rfl⟩;exact⟨i,eJ.mpr hi,rfl⟩
theorem j4.first{w:W}{d:Nat×Nat}{r:List (Nat×Nat)}(h:j4 w d r):d∈r:=by
 obtain⟨k,h0,_,_,rfl⟩:=h;exact kJ.mpr ⟨0,h0,rfl⟩
theorem j4.next{w:W}{d e:Nat×Nat}{r:List (Nat×Nat)}(h:j4 w d r)(he:e∈r):bA w e∈r:=by
 obtain⟨k,h0,h1,_,rfl⟩:=h;obtain⟨i,hi,rfl⟩:=kJ.mp he
 by_cases c:i+1<k
 ·exact kJ.mpr ⟨i+1,c,rfl⟩
 ·have:i+1=k:=by omega
  refine kJ.mpr ⟨0,h0,?_⟩;show fO w (i+1) d=d;rw[this];exact h1
theorem j4.iter{w:W}{d e:Nat×Nat}{r:List (Nat×Nat)}(h:j4 w d r)(he:e∈r):∀n,fO w n e∈r
 |0=>he
 |n+1=>h.next (h.iter he n)
theorem j4.back{w:W}{d e:Nat×Nat}{r:List (Nat×Nat)}(h:j4 w d r)(he:e∈r):∃n,fO w n e=d:=by
 obtain⟨k,h0,h1,_,rfl⟩:=h;obtain⟨i,hi,rfl⟩:=kJ.mp he;refine⟨k-i,?_⟩;rw[<-vM i (k-i),show k-i+i=k by omega]
 exact h1
theorem j4.nodup{w:W}(g:Good w){d:Nat×Nat}{r:List (Nat×Nat)}(h:j4 w d r)(hd:bo w d):r.Nodup:=by
 obtain⟨k,h0,h1,h2,rfl⟩:=h;exact ub g hd h2
theorem j4.bf{w:W}(g:Good w){d:Nat×Nat}{r:List (Nat×Nat)}(h:j4 w d r)(hd:bo w d):∀e∈r,bo w e:=by
 obtain⟨k,h0,h1,h2,rfl⟩:=h;exact wQ g hd
structure Wk (w:W) (ds:List (Nat×Nat)) (i:Nat) (rs:List (List (Nat×Nat))):Prop where
 rnd:∀r∈rs,∃d,j4 w d r/\bo w d/\∀e∈r,lexLe d e
 nod:rs.flatten.Nodup
 met:∀j e,j<i->ds[j]? =some e->e∈rs.flatten
theorem Wk.zero(w:W)(ds:List (Nat×Nat)):Wk w ds 0 []:=⟨(λr h=>by cases h),iL,(λj e h=>by omega)⟩
theorem Wk.skip{w:W}{ds:List (Nat×Nat)}{i:Nat}{rs:List (List (Nat×Nat))}{d:Nat×Nat}(h:Wk w ds i rs)(hd:ds[i]? =some d)(hm:d∈rs.flatten):Wk w ds (i+1) rs:=
 ⟨h.rnd,h.nod,λj e hj he=>by
  by_cases c:j=i
  ·subst c;rw[hd] at he;cases he;exact hm
  ·exact h.met j e (by omega) he⟩
theorem Wk.take{w:W}(g:Good w){ds:List (Nat×Nat)}(all:∀e,bo w e->e∈ds)(EN:∀e∈ds,bo w e)(As:ds.Pairwise lexLe){i:Nat}{rs:List (List (Nat×Nat))}{d:Nat×Nat}{r:List (Nat×Nat)}(h:Wk w ds i rs)(hd:ds[i]? =some d)(hm:d∉rs.flatten)(hr:j4 w d r):Wk w ds (i+1) (rs++ [r]):=by
 have dd:bo w d:=EN d (eS hd)
 have off:∀e∈r,e∉rs.flatten:=λe he hf=>by
  obtain⟨r',Bk,C5⟩:=xk.mp hf;obtain⟨d',R',_,_⟩:=h.rnd r' Bk;obtain⟨n,hn⟩:=hr.back he;exact hm (xk.mpr ⟨r',Bk,by rw[<-hn];exact R'.iter C5 n⟩)
 refine⟨λr' h'=>?_,?_,λj e hj he=>?_⟩
 ·rcases fR.mp h' with z|z
  ·exact h.rnd r' z
  ·rw[iI.mp z]
   refine⟨d,hr,dd,λe he=>?_⟩;obtain⟨j,hj⟩:=pA (all e (hr.bf g dd e he))
   by_cases c:j<i
   ·exact absurd (h.met j e c hj) (off e he)
   ·by_cases c2:j=i
    ·subst c2;rw[hd] at hj;cases hj
     exact .inr ⟨rfl,br _⟩
    ·obtain⟨h1,e1⟩:=cT.mp hd
     obtain⟨h2,e2⟩:=cT.mp hj;rw[<-e1,<-e2];exact Ez.mp As i j h1 h2 (by omega)
 ·rw[Az,gN]
  refine⟨h.nod,by simpa using hr.nodup g dd,λa ha b hb e=>?_⟩
  subst e;exact off a (by simpa using hb) ha
 ·rw[Az,fR]
  by_cases c:j=i
  ·subst c;rw[hd] at he;cases he
   exact .inr (by simpa using hr.first)
  ·exact .inl (h.met j e (by omega) he)
theorem Wk.fin{w:W}(g:Good w){ds:List (Nat×Nat)}(all:∀e,bo w e->e∈ds){rs:List (List (Nat×Nat))}(h:Wk w ds ds.length rs):rs.flatten.Perm (bf w):=by
 have sub:∀e,e∈rs.flatten↔e∈bf w:=λe=>by
  rw[b6]
  constructor
  ·intro he
   obtain⟨r,hr,her⟩:=xk.mp he;obtain⟨d,R,dd,_⟩:=h.rnd r hr;exact R.bf g dd e her
  ·intro he
   obtain⟨j,hj⟩:=pA (all e he);exact h.met j e (cT.mp hj).1 hj
 exact(Cn h.nod (iO g)).mpr sub
structure bM (w:W) (rs:List (List (Nat×Nat))):Prop where
 rnd:∀r∈rs,∃d,j4 w d r/\bo w d/\∀e∈r,lexLe d e
 perm:rs.flatten.Perm (bf w)
theorem bM.JJ{w:W}{rs iz:List (List (Nat×Nat))}(R:bM w rs)(p:iz.Perm rs):bM w iz:=
 ⟨λr hr=>R.rnd r (p.mem_iff.mp hr),(p.flatten).trans R.perm⟩
theorem A0{w:W}{d:Nat×Nat}(g:Good w)(h:bo w d):d.1≠d.2:=λe=>g.irr d.1 (by have:d.2∈row w d.1:=h;rw[<-e] at this;exact this)
theorem vh{w:W}(g:Good w){ts:List (Nat×Nat)}(pm:ts.Perm (iS (row w) w.length)):(ts++ts.map λt=>(t.2,t.1)).Perm (bf w):=by
 have e:=nY w;have nd:=iO g
 have m:∀t,t∈ts↔bo w t/\t.1<t.2:=λt=>by
  rw[pm.mem_iff,e,mF,b6,decide_eq_true_eq]
 have nt:ts.Nodup:=pm.nodup_iff.mpr (by rw[e];exact nd.filter _)
 refine(Cn ?_ nd).mpr λd=>?_
 ·rw[gN]
  refine⟨nt,?_,λa ha b hb z=>?_⟩
  ·rw[Ex,pC]
   rw[Ex] at nt;exact nt.imp λ {a b} h z=>h (Prod.ext (Prod.mk.inj z).2 (Prod.mk.inj z).1)
  ·obtain⟨c,hc,rfl⟩:=dE.mp hb
   have h1:=((m a).mp ha).2;have h2:=((m c).mp hc).2;rw[z] at h1;have h1:c.2<c.1:=h1;omega
 ·rw[fR,dE,b6]
  constructor
  ·rintro(h| ⟨c,hc,rfl⟩)
   ·exact((m d).mp h).1
   ·exact g.sym _ _ ((m c).mp hc).1
  ·intro h
   rcases Nat.lt_or_gt_of_ne (A0 g h) with c|c
   ·exact .inl ((m d).mpr ⟨h,c⟩)
   ·exact .inr ⟨(d.2,d.1),(m _).mpr ⟨g.sym _ _ h,c⟩,rfl⟩
theorem j4.uniq{w:W}{d:Nat×Nat}{r r':List (Nat×Nat)}(h:j4 w d r)(h':j4 w d r'):r=r':=by
 obtain⟨k,a1,a2,a3,rfl⟩:=h;obtain⟨m,b1,b2,b3,rfl⟩:=h'
 rcases Nat.lt_trichotomy k m with c|c|c
 ·exact absurd a2 (b3 k a1 c)
 ·rw[c]
 ·exact absurd b2 (a3 m b1 c)
theorem bM.sub{w:W}{rs iz:List (List (Nat×Nat))}(R:bM w rs)(R':bM w iz):∀r∈rs,r∈iz:=λr hr=>by
 obtain⟨d,h1,h2,h3⟩:=R.rnd r hr;have hd:d∈iz.flatten:=R'.perm.mem_iff.mpr (b6.mpr h2);obtain⟨r',Bk,VJ⟩:=xk.mp hd;obtain⟨d',k1,k2,k3⟩:=R'.rnd r' Bk;obtain⟨n,hn⟩:=k1.back VJ;have l1:lexLe d d':=by rw[<-hn];exact h3 _ (h1.iter h1.first n)
 have e:=yI l1 (k3 d VJ);subst e;rw[h1.uniq k1];exact Bk
theorem bM.ne{w:W}{rs:List (List (Nat×Nat))}(R:bM w rs):∀r∈rs,r≠ []:=λr hr z=>by
 obtain⟨d,h1,_⟩:=R.rnd r hr
 have:=h1.first
 rw[z] at this;cases this
theorem tR{α:Type}:∀{l:List (List α)},l.flatten.Nodup->(∀r∈l,r≠ [])->l.Nodup
 | [],_,_=>iL
 |a::l,h,hn=>by
  rw[pB,gN] at h;refine eI.mpr ⟨λha=>?_,tR h.2.1 λr hr=>hn r (b8 _ hr)⟩;cases a with
  |nil=>exact hn [] (cw ..) rfl
  |cons x a=>exact h.2.2 x (cw ..) x (xk.mpr ⟨_,ha,cw ..⟩) rfl
theorem bM.nodup{w:W}{rs:List (List (Nat×Nat))}(g:Good w)(R:bM w rs):rs.Nodup:=tR (R.perm.nodup_iff.mpr (iO g)) R.ne
abbrev eE(rs:List (List (Nat×Nat))):List (List Nat):=rs.map λr=>r.map (·.1)
theorem DH{a b:List Nat}(h:L2.kI a b)(h':L2.kI b a):a=b:=by
 have:=L2.vP (L2.mL a) (L2.mL b) h' h
 exact L2.KZ (by rw[this])
theorem bM.uniq{w:W}(g:Good w){rs iz:List (List (Nat×Nat))}(R:bM w rs)(R':bM w iz)(s:(eE rs).Pairwise L2.kI)(s':(eE iz).Pairwise L2.kI):eE rs=eE iz:=by
 have pm:rs.Perm iz:=(Cn (R.nodup g) (R'.nodup g)).mpr λr=>⟨R.sub R' r,R'.sub R r⟩;exact List.Perm.eq_of_pairwise (λ_ _ _ _=>DH) s s' (pm.map _)
open Classical in
noncomputable def j8(w:W):List (List Nat):=if h:∃rs,bM w rs/\(eE rs).Pairwise L2.kI then eE h.choose else[]
theorem Gx{w:W}(g:Good w){rs:List (List (Nat×Nat))}(R:bM w rs)(s:(eE rs).Pairwise L2.kI):j8 w=eE rs:=by
 have h:∃rs,bM w rs/\(eE rs).Pairwise L2.kI:=⟨rs,R,s⟩;unfold j8;rw[dif_pos h];exact h.choose_spec.1.uniq g R h.choose_spec.2 s
theorem fz{a b:List Nat}{x y:Nat}(nd:(a++x::y::b).Nodup):ar (a++x::y::b) x=y:=by
 have hx:x∉a:=λh=>by
  have:=(gN.mp nd).2.2 x h x (cw ..)
  exact this rfl
 have e:(a++x::y::b).idxOf x=a.length:=by
  rw[List.idxOf_append,if_neg hx,List.idxOf_cons_self];simp
 unfold ar;rw[e,r8 (by simp),bb,iH (by omega)]
 simp
theorem jV{b:List Nat}{x y:Nat}(nd:(y::(b++ [x])).Nodup):ar (y::(b++ [x])) x=y:=by
 have hx:x∉y::b:=λh=>by
  have h2:(y::b++ [x]).Nodup:=nd;exact(gN.mp h2).2.2 x h x (by simp) rfl
 have e:(y::(b++ [x])).idxOf x=b.length+1:=by
  show(y::b++ [x]).idxOf x=_;rw[List.idxOf_append,if_neg hx];simp
 unfold ar;rw[e]
 have:(b.length+1+1)%(y::(b++ [x])).length=0:=by simp
 rw[this];rfl
theorem wJ{a b:List Nat}{x:Nat}(nd:(a++b).Nodup)(h:x∈a++b):ar (b++a) x=ar (a++b) x:=by
 have oQ:(b++a).Nodup:=(List.perm_append_comm.nodup_iff).mp nd;obtain⟨u,v,e⟩:=List.append_of_mem h;cases v with
 |cons y v=>
  rw[e,fz (e▸nd)]
  rcases List.append_eq_append_iff.mp e with ⟨c,h1,h2⟩ | ⟨c,h1,h2⟩
  ·
   rw[h2,show c++x::y::v++a=c++x::y::(v++a) by simp]
   refine fz ?_;rw[h2] at oQ;simpa using oQ
  ·
   cases c with
   |nil=>
    have hb:b=x::y::v:=by simpa using h2.symm
    rw[hb,show x::y::v++a= []++x::y::(v++a) by simp]
    refine fz ?_;rw[hb] at oQ;simpa using oQ
   |cons z c=>
    have hz:x=z/\y::v=c++b:=by simpa using h2
    obtain⟨rfl,h3⟩:=hz;cases c with
    |nil=>
     have hb:b=y::v:=by simpa using h3.symm
     rw[h1,hb,show y::v++(u++ [x])=y::((v++u)++ [x]) by simp]
     refine jV ?_;rw[h1,hb] at oQ;simpa using oQ
    |cons z c=>
     have hz:y=z/\v=c++b:=by simpa using h3
     obtain⟨rfl,rfl⟩:=hz;rw[h1,show b++(u++x::y::c)=(b++u)++x::y::c by simp]
     refine fz ?_;rw[h1] at oQ;simpa using oQ
 |nil=>
  cases b with
  |nil=>simp
  |cons y b=>
   rcases List.eq_nil_or_concat b with rfl| ⟨b',z,rfl⟩
   ·
    have:a=u/\y=x:=by
     have:=List.append_inj' e rfl
     exact⟨this.1,by simpa using this.2⟩
    obtain⟨rfl,rfl⟩:=this;cases a with
    |nil=>rfl
    |cons t a=>
     have e1:ar (t::a++ [y]) y=t:=jV (b:=a) nd;rw[e1];show ar ([]++y::t::a) y=t;exact fz (oQ)
   ·have hx:z=x:=by
     rw[List.concat_eq_append] at e;have e:(a++y::b')++ [z]=u++ [x]:=by simpa using e
     exact by simpa using(List.append_inj' e rfl).2
    subst hx;rw[List.concat_eq_append] at nd oQ ⊢;cases a with
    |nil=>simp
    |cons t a=>
     have e1:ar (t::a++y::(b'++ [z])) z=t:=by
      have:=jV (y:=t) (b:=a++y::b') (x:=z) (by simpa using nd)
      simpa using this
     have e2:ar (y::(b'++ [z])++t::a) z=t:=by
      have:=fz (a:=y::b') (x:=z) (y:=t) (b:=a) (by simpa using oQ)
      simpa using this
     rw[e1,e2]
theorem bE{l:List Nat}{i:Nat}(nd:l.Nodup)(h:i+1<l.length):ar l (l.getD i 0)=l.getD (i+1) 0:=by
 have e:l.getD i 0=l[i]:=by rw[bb,bL (by omega)];rfl
 unfold ar;rw[e,nd.idxOf_getElem i (by omega),r8 h]
theorem cK{l:List Nat}{i:Nat}(nd:l.Nodup)(h:i+1=l.length):ar l (l.getD i 0)=l.getD 0 0:=by
 have e:l.getD i 0=l[i]:=by rw[bb,bL (by omega)];rfl
 unfold ar;rw[e,nd.idxOf_getElem i (by omega),h,Nat.mod_self]
section
variable {w:W} {R:List Nat} {A:Nat×Nat->Prop} {v m:Nat} {y:Nat->Nat}
end
theorem getD_inj{l:List Nat}(nd:l.Nodup){i j:Nat}(hi:i<l.length)(hj:j<l.length)(e:l.getD i 0=l.getD j 0):i=j:=by
 have ei:l.getD i 0=l[i]:=by rw[bb,bL hi];rfl
 have ej:l.getD j 0=l[j]:=by rw[bb,bL hj];rfl
 rw[ei,ej] at e;have h1:=nd.idxOf_getElem i hi;have h2:=nd.idxOf_getElem j hj;rw[e,h2] at h1;exact h1.symm
theorem bw{l:List Nat}{i:Nat}(h:i<l.length):l.getD i 0∈l:=by
 rw[bb,bL h];exact kZ h
section
variable {w:W} {R:List Nat} {A:Nat×Nat->Prop}
def lA(C:List Nat)(x y:Nat):Prop:=x∈C/\y=ar C x
end
def par{α:Type}(f:α->Bool):List α->Bool
 | []=>false
 |x::l=>(f x).xor (par f l)
theorem rj{α:Type}(f:α->Bool):∀l m:List α,par f (l++m)=(par f l).xor (par f m)
 | [],m=>by simp[par]
 |x::l,m=>by rw[List.cons_append,par,par,rj f l m,Bool.xor_assoc]
theorem wx{α:Type}(f g:α->Bool):∀l:List α,par (λx=>(f x).xor (g x)) l=(par f l).xor (par g l)
 | []=>rfl
 |x::l=>by
  rw[par,par,par,wx f g l];cases f x<;>cases g x<;>cases par f l<;>cases par g l<;>rfl
theorem iZ{α:Type}{f:α->Bool}:∀{l:List α},(∀x∈l,f x=false)->par f l=false
 | [],_=>rfl
 |x::l,h=>by rw[par,h x (cw ..),iZ λy hy=>h y (b8 _ hy)];rfl
theorem p9{α:Type}{f g:α->Bool}:∀{l:List α},(∀x∈l,f x=g x)->par f l=par g l
 | [],_=>rfl
 |x::l,h=>by rw[par,par,h x (cw ..),p9 λy hy=>h y (b8 _ hy)]
theorem wu{b:Bool}{a:Nat}:∀{l:List Nat},l.Nodup->a∈l->par (λx=>decide (x=a)&&b) l=b
 | [],_,h=>by cases h
 |x::l,nd,h=>by
  obtain⟨n1,n2⟩:=eI.mp nd;rw[par]
  by_cases e:x=a
  ·subst e
   rw[iZ λy hy=>by
    have:y≠x:=λz=>n1 (z▸hy)
    simp[this]]
   simp
  ·have:a∈l:=by
    rcases cD.mp h with z|z
    ·exact absurd z.symm e
    ·exact z
   rw[wu n2 this];simp[e]
theorem BL{α:Type}(f:α->Bool):∀l:List α,par f l.reverse=par f l
 | []=>rfl
 |x::l=>by
  rw[List.reverse_cons,rj,BL f l,par,par,par];cases f x<;>cases par f l<;>rfl
def Sb(w:W):Prop:=∀c:Nat->Nat->Bool,(∀x y,c x y=c y x)->(∀p,p<w.length->par (c p) (row w p)=false)->
 ∃S:Nat×Nat->Bool,(∀d,bo w d->S d=S (bA w d))/\∀x y,bo w (x,y)->(S (x,y)).xor (S (y,x))=c x y
open Classical in
structure cJ (w:W) (R:List Nat):Prop where
 g:Good w
 nd:R.Nodup
 len:3<=R.length
 hd:∀x∈R,ar R x∈row w x/\(row w x).getD 0 0=ar R x
 ls:∀x∈R,(row w x).getD ((row w x).length-1) 0∈R/\ar R ((row w x).getD ((row w x).length-1) 0)=x
 tri:∀x y,bo w (x,y)->¬lA R x y->bA w (bA w (bA w (x,y)))=(x,y)/\¬lA R (bA w (x,y)).1 (bA w (x,y)).2
 bnd:Sb w
theorem cJ.RH{w:W}{a b:List Nat}(G:cJ w (a++b)):cJ w (b++a):=by
 have mem:∀p,p∈b++a↔p∈a++b:=λp=>List.perm_append_comm.mem_iff;have s:∀p,p∈b++a->ar (b++a) p=ar (a++b) p:=λp h=>wJ G.nd ((mem p).mp h)
 have ad:∀x y,lA (b++a) x y↔lA (a++b) x y:=λx y=>by
  constructor
  ·rintro⟨h,e⟩;exact⟨(mem x).mp h,by rw[e,s x h]⟩
  ·rintro⟨h,e⟩;exact⟨(mem x).mpr h,by rw[e,s x ((mem x).mpr h)]⟩
 refine⟨G.g,List.perm_append_comm.nodup_iff.mp G.nd,by have:=G.len;simp at this ⊢;omega,λx hx=>?_,λx hx=>?_,λx y hd n=>?_,G.bnd⟩
 ·rw[s x hx];exact G.hd x ((mem x).mp hx)
 ·have:=G.ls x ((mem x).mp hx)
  exact⟨(mem _).mpr this.1,by rw[s _ ((mem _).mpr this.1)];exact this.2⟩
 ·have:=G.tri x y hd (λz=>n ((ad x y).mpr z))
  exact⟨this.1,λz=>this.2 ((ad _ _).mp z)⟩
theorem cJ.sU{w:W}{R:List Nat}(G:cJ w R){x b:Nat}(hx:x∈R)(hb:b∈R)(e:ar R b=x):(row w x).getD ((row w x).length-1) 0=b/\(row w x).length≠0:=by
 have:=G.ls x hx
 refine⟨lT G.nd this.1 hb (by rw[this.2,e]),?_⟩
 have:=(G.hd x hx).1
 intro z;rw[Fy.mp z] at this;cases this
theorem cJ.outer{w:W}{R:List Nat}(G:cJ w R){x y:Nat}(h:lA R x y):bA w (x,y)=(y,ar R y):=by
 obtain⟨hx,rfl⟩:=h;have hy:=e7 hx;obtain⟨e,ne⟩:=G.sU hy hx rfl;show(_,ar (row w (ar R x)) x)=_;have e2:=cK (G.g.nod (ar R x)) (i:=(row w (ar R x)).length-1) (by omega)
 rw[e] at e2;rw[e2,(G.hd _ hy).2]
end Wb
set_option maxHeartbeats 1000000
namespace Wb
structure Step (w w':W) (R:List Nat) (f:Nat):Prop where
 l:w'.length=w.length+1
 f1:1<=f
 fn:f<R.length
 rv:row w' w.length=(R.take (f+1)).reverse
 r0:row w' (R.getD 0 0)=w.length::row w (R.getD 0 0)
 rk:∀k,1<=k->k<=f->row w' (R.getD k 0)=row w (R.getD k 0)++ [w.length]
 ro:∀x,x≠w.length->(∀k,k<=f->x≠R.getD k 0)->row w' x=row w x
def bW(R:List Nat)(f v:Nat):List Nat:=R.getD 0 0::v::R.drop f
theorem fh{R:List Nat}{f k:Nat}(h:f<R.length)(hk:k<=f):(R.take (f+1)).reverse.getD (f-k) 0=R.getD k 0:=by
 have l:(R.take (f+1)).length=f+1:=by rw[fj];omega
 rw[bb,List.getElem?_reverse (by omega),l,show f+1-1-(f-k)=k by omega,w9 (by omega),<-bb]
theorem uE{l:List Nat}{v x:Nat}(nd:(v::l).Nodup)(hx:x∈l)(hl:x≠l.getD (l.length-1) 0):ar (v::l) x=ar l x:=by
 obtain⟨i,hi,rfl⟩:=jB.mp hx;have e:l[i]=l.getD i 0:=by rw[bb,bL hi];rfl
 have pP:i+1<l.length:=by
  apply Classical.byContradiction;intro c;exact hl (by rw[e,show l.length-1=i by omega])
 have h1:=bE (i:=i+1) nd (by simp;omega)
 have h2:=bE (i:=i) (eI.mp nd).2 pP;rw[rZ,rZ] at h1;rw[e,h1,h2]
theorem uF{l:List Nat}{v x:Nat}(nd:(l++ [v]).Nodup)(hx:x∈l)(hl:x≠l.getD (l.length-1) 0):ar (l++ [v]) x=ar l x:=by
 obtain⟨i,hi,rfl⟩:=jB.mp hx;have e:l[i]=l.getD i 0:=by rw[bb,bL hi];rfl
 have pP:i+1<l.length:=by
  apply Classical.byContradiction;intro c;exact hl (by rw[e,show l.length-1=i by omega])
 have g:∀j,j<l.length->(l++ [v]).getD j 0=l.getD j 0:=λj hj=>by rw[bb,gE hj,<-bb]
 have h1:=bE (i:=i) nd (by simp;omega)
 have h2:=bE (i:=i) (gN.mp nd).1 pP;rw[g i hi,g (i+1) pP] at h1;rw[e,h1,h2]
section
variable {w w':W} {R:List Nat} {f:Nat}
theorem qm(G:cJ w R)(T:Step w w' R f):Good w':=by
 have g:=G.g;have fn:=T.fn;have zR:∀k,k<=f->R.getD k 0∈R:=λk h=>bw (by omega)
 have zlt:∀k,k<=f->R.getD k 0<w.length:=λk h=>aQ (G.hd _ (zR k h)).1
 have HF:∀x,x∈(R.take (f+1)).reverse↔∃k,k<=f/\x=R.getD k 0:=λx=>by
  rw[List.mem_reverse]
  constructor
  ·intro h
   obtain⟨i,hi,rfl⟩:=jB.mp h;rw[fj] at hi;exact⟨i,by omega,by rw[Cu,bb,bL (by omega)];rfl⟩
  ·rintro⟨k,hk,rfl⟩
   refine jB.mpr ⟨k,by rw[fj];omega,?_⟩
   rw[Cu,bb,bL (by omega)];rfl
 have mem:∀x,x≠w.length->∀y,y∈row w' x↔y∈row w x\/(y=w.length/\∃k,k<=f/\x=R.getD k 0):=λx hx y=>by
  by_cases c:∃k,k<=f/\x=R.getD k 0
  ·obtain⟨k,hk,rfl⟩:=c
   by_cases k0:k=0
   ·subst k0
    rw[T.r0,cD];exact⟨λh=>h.elim (λz=> .inr ⟨z,0,hk,rfl⟩) .inl,λh=>h.elim .inr (λz=> .inl z.1)⟩
   ·rw[T.rk k (by omega) hk,fR,iI]
    exact⟨λh=>h.elim .inl (λz=> .inr ⟨z,k,hk,rfl⟩),λh=>h.elim .inl (λz=> .inr z.1)⟩
  ·rw[T.ro x hx (λk hk z=>c ⟨k,hk,z⟩)]
   exact⟨.inl,λh=>h.elim id (λz=>absurd z.2 c)⟩
 have E6:∀y,y∈row w' w.length↔∃k,k<=f/\y=R.getD k 0:=λy=>by rw[T.rv];exact HF y
 have K1:∀x,w.length∉row w x:=λx h=>gI _ (g.rng _ _ h)
 have noR:∀x,x≠w.length->(row w' x).Nodup:=λx hx=>by
  by_cases c:∃k,k<=f/\x=R.getD k 0
  ·obtain⟨k,hk,rfl⟩:=c
   by_cases k0:k=0
   ·subst k0
    rw[T.r0];exact eI.mpr ⟨K1 _,g.nod _⟩
   ·rw[T.rk k (by omega) hk]
    exact gN.mpr ⟨g.nod _,by simp,λa ha b hb e=>by
     have:b=w.length:=iI.mp hb
     rw[e,this] at ha;exact K1 _ ha⟩
  ·rw[T.ro x hx (λk hk z=>c ⟨k,hk,z⟩)];exact g.nod x
 have up:∀x y,y∈row w x->y∈row w' x:=λx y h=>(mem x (by have:=aQ h;omega) y).mpr (.inl h)
 have con:∀x,x<w.length->Reach w' 0 x:=λx hx=>(g.con x hx).mono up;refine⟨λx y h=>?_,λx h=>?_,λx=>?_,λx y h=>?_,λx hx=>?_⟩
 ·rw[T.l]
  by_cases c:x=w.length
  ·subst c
   obtain⟨k,hk,rfl⟩:=(E6 y).mp h
   have:=zlt k hk;omega
  ·rcases(mem x c y).mp h with h| ⟨h,_⟩
   ·have:=g.rng _ _ h;omega
   ·omega
 ·by_cases c:x=w.length
  ·subst c
   obtain⟨k,hk,e⟩:=(E6 _).mp h
   have:=zlt k hk;omega
  ·rcases(mem x c x).mp h with h| ⟨h,_⟩
   ·exact g.irr x h
   ·exact c h
 ·by_cases c:x=w.length
  ·subst c
   rw[T.rv];exact(List.reverse_perm _).nodup_iff.mpr (G.nd.sublist (List.take_sublist _ _))
  ·exact noR x c
 ·by_cases c:x=w.length
  ·subst c
   obtain⟨k,hk,rfl⟩:=(E6 y).mp h;exact(mem _ (by have:=zlt k hk;omega) _).mpr (.inr ⟨rfl,k,hk,rfl⟩)
  ·rcases(mem x c y).mp h with h| ⟨rfl,k,hk,rfl⟩
   ·exact up _ _ (g.sym _ _ h)
   ·exact(E6 _).mpr ⟨k,hk,rfl⟩
 ·rw[T.l] at hx
  by_cases c:x=w.length
  ·subst c
   exact .step (con _ (zlt 0 (cI _))) ((mem _ (by have:=zlt 0 (cI _);omega) _).mpr (.inr ⟨rfl,0,cI _,rfl⟩))
  ·exact con x (by omega)
structure SF (w w':W) (R:List Nat) (f:Nat):Prop where
 z:∀k,k<R.length->R.getD k 0∈R
 zlt:∀k,k<R.length->R.getD k 0<w.length
 inj:∀i j,i<R.length->j<R.length->R.getD i 0=R.getD j 0->i=j
 dv:∀y,bo w' (w.length,y)↔∃k,k<=f/\y=R.getD k 0
 dx:∀x,x≠w.length->∀y,bo w' (x,y)↔bo w (x,y)\/(y=w.length/\∃k,k<=f/\x=R.getD k 0)
 n1:∀x y,bo w (x,y)->¬lA R x y->bA w' (x,y)=bA w (x,y)
 n1o:∀i,f<=i->i+1<R.length->bA w' (R.getD i 0,R.getD (i+1) 0)=(R.getD (i+1) 0,ar R (R.getD (i+1) 0))
 n1e:bA w' (R.getD (R.length-1) 0,R.getD 0 0)=(R.getD 0 0,w.length)
 n2:∀k,k<f->bA w' (R.getD k 0,R.getD (k+1) 0)=(R.getD (k+1) 0,w.length)
 n3:∀k,k<f->bA w' (R.getD (k+1) 0,w.length)=(w.length,R.getD k 0)
 n3e:bA w' (R.getD 0 0,w.length)=(w.length,R.getD f 0)
 n4:∀k,k<=f->bA w' (w.length,R.getD k 0)=(R.getD k 0,ar R (R.getD k 0))
theorem nX(G:cJ w R)(T:Step w w' R f):SF w w' R f:=by
 have g:=G.g;have g':=qm G T;have fn:=T.fn;have f1:=T.f1;have zR:∀k,k<R.length->R.getD k 0∈R:=λk h=>bw h;have zlt:∀k,k<R.length->R.getD k 0<w.length:=λk h=>aQ (G.hd _ (zR k h)).1;have inj:∀i j,i<R.length->j<R.length->R.getD i 0=R.getD j 0->i=j:=λi j hi hj e=>getD_inj G.nd hi hj e;have K1:∀x,w.length∉row w x:=λx h=>gI _ (g.rng _ _ h);have sx:∀i,i+1<R.length->ar R (R.getD i 0)=R.getD (i+1) 0:=λi h=>bE G.nd h;have se:ar R (R.getD (R.length-1) 0)=R.getD 0 0:=cK G.nd (by omega)
 have HF:∀x,x∈(R.take (f+1)).reverse↔∃k,k<=f/\x=R.getD k 0:=λx=>by
  rw[List.mem_reverse]
  constructor
  ·intro h
   obtain⟨i,hi,rfl⟩:=jB.mp h;rw[fj] at hi;exact⟨i,by omega,by rw[Cu,bb,bL (by omega)];rfl⟩
  ·rintro⟨k,hk,rfl⟩
   refine jB.mpr ⟨k,by rw[fj];omega,?_⟩
   rw[Cu,bb,bL (by omega)];rfl
 have dx:∀x,x≠w.length->∀y,bo w' (x,y)↔bo w (x,y)\/(y=w.length/\∃k,k<=f/\x=R.getD k 0):=λx hx y=>by
  show y∈row w' x↔y∈row w x\/_
  by_cases c:∃k,k<=f/\x=R.getD k 0
  ·obtain⟨k,hk,rfl⟩:=c
   by_cases k0:k=0
   ·subst k0
    rw[T.r0,cD];exact⟨λh=>h.elim (λz=> .inr ⟨z,0,hk,rfl⟩) .inl,λh=>h.elim .inr (λz=> .inl z.1)⟩
   ·rw[T.rk k (by omega) hk,fR,iI]
    exact⟨λh=>h.elim .inl (λz=> .inr ⟨z,k,hk,rfl⟩),λh=>h.elim .inl (λz=> .inr z.1)⟩
  ·rw[T.ro x hx (λk hk z=>c ⟨k,hk,z⟩)]
   exact⟨.inl,λh=>h.elim id (λz=>absurd z.2 c)⟩
 have OL:∀k,k<R.length->(row w (R.getD k 0)).length≠0:=λk hk z=>by
  have:=(G.hd _ (zR k hk)).1
  rw[Fy.mp z] at this;cases this
 have s0:∀x,x∈row w (R.getD 0 0)->x≠(row w (R.getD 0 0)).getD ((row w (R.getD 0 0)).length-1) 0->ar (row w' (R.getD 0 0)) x=ar (row w (R.getD 0 0)) x:=λx h1 h2=>by
  rw[T.r0];exact uE (by rw[<-T.r0];exact g'.nod _) h1 h2
 have sk:∀k,1<=k->k<=f->∀x,x∈row w (R.getD k 0)->x≠(row w (R.getD k 0)).getD ((row w (R.getD k 0)).length-1) 0->ar (row w' (R.getD k 0)) x=ar (row w (R.getD k 0)) x:=λk h1 h2 x h3 h4=>by
  rw[T.rk k h1 h2];exact uF (by rw[<-T.rk k h1 h2];exact g'.nod _) h3 h4
 have lastOf:∀y∈R,∀x,x=(row w y).getD ((row w y).length-1) 0->lA R x y:=λy hy x e=>by
  have:=G.ls y hy
  rw[<-e] at this;exact⟨this.1,this.2.symm⟩
 have M8:∀k,1<=k->k<=f->ar (row w' (R.getD k 0)) ((row w (R.getD k 0)).getD ((row w (R.getD k 0)).length-1) 0)=w.length:=λk h1 h2=>by
  have nd:=g'.nod (R.getD k 0);have ln:=OL k (by omega)
  rw[T.rk k h1 h2] at nd ⊢;have h:=bE (i:=(row w (R.getD k 0)).length-1) nd (by rw[dG,xg];omega)
  have e1:(row w (R.getD k 0)++ [w.length]).getD ((row w (R.getD k 0)).length-1) 0=(row w (R.getD k 0)).getD ((row w (R.getD k 0)).length-1) 0:=by
   rw[bb,gE (by omega),<-bb]
  have e2:(row w (R.getD k 0)++ [w.length]).getD ((row w (R.getD k 0)).length-1+1) 0=w.length:=by
   rw[bb,iH (by omega),show(row w (R.getD k 0)).length-1+1-(row w (R.getD k 0)).length=0 by omega];rfl
  rw[e1,e2] at h;exact h
 refine⟨zR,zlt,inj,λy=>by show y∈row w' w.length↔_;rw[T.rv];exact HF y,dx,λx y hd n=>?_,λi h1 h2=>?_,?_,λk hk=>?_,λk hk=>?_,?_,λk hk=>?_⟩
 ·
  show(y,ar (row w' y) x)=(y,ar (row w y) x);have xy:x∈row w y:=g.sym _ _ hd
  by_cases c:∃k,k<=f/\y=R.getD k 0
  ·obtain⟨k,hk,rfl⟩:=c
   have nl:x≠(row w (R.getD k 0)).getD ((row w (R.getD k 0)).length-1) 0:=λe=>n (lastOf _ (zR k (by omega)) x e)
   by_cases k0:k=0
   ·subst k0;rw[s0 x xy nl]
   ·rw[sk k (by omega) hk x xy nl]
  ·rw[T.ro y (by have:=g.rng _ _ hd;omega) (λk hk z=>c ⟨k,hk,z⟩)]
 ·
  have hm:=zR (i+1) h2;obtain⟨e,ne⟩:=G.sU hm (zR i (by omega)) (sx i h2)
  show(_,ar (row w' (R.getD (i+1) 0)) (R.getD i 0))=_;rw[T.ro _ (by have:=zlt (i+1) h2;omega) (λk hk z=>by have:=inj _ _ h2 (by omega) z;omega)]
  have e2:=cK (g.nod (R.getD (i+1) 0)) (i:=(row w (R.getD (i+1) 0)).length-1) (by omega)
  rw[e] at e2;rw[e2,(G.hd _ hm).2]
 ·
  have hm:=zR 0 (by omega)
  obtain⟨e,ne⟩:=G.sU hm (zR (R.length-1) (by omega)) se
  show(_,ar (row w' (R.getD 0 0)) (R.getD (R.length-1) 0))=_;rw[T.r0];have nd:=g'.nod (R.getD 0 0);rw[T.r0] at nd;have e2:=cK nd (i:=(row w (R.getD 0 0)).length) (by simp)
  have e3:(w.length::row w (R.getD 0 0)).getD (row w (R.getD 0 0)).length 0=R.getD (R.length-1) 0:=by
   rw[<-e,show(row w (R.getD 0 0)).length=(row w (R.getD 0 0)).length-1+1 by omega,rZ];simp
  rw[e3] at e2;rw[e2];rfl
 ·
  have hm:=zR (k+1) (by omega)
  obtain⟨e,ne⟩:=G.sU hm (zR k (by omega)) (sx k (by omega))
  show(_,ar (row w' (R.getD (k+1) 0)) (R.getD k 0))=_
  have:=M8 (k+1) (by omega) (by omega)
  rw[e] at this;rw[this]
 ·
  show(_,ar (row w' w.length) (R.getD (k+1) 0))=_;have nd:=g'.nod w.length;rw[T.rv] at nd ⊢;have l:(R.take (f+1)).reverse.length=f+1:=by rw[zr,fj];omega
  have h:=bE (i:=f-(k+1)) nd (by omega)
  rw[fh fn (by omega),show f-(k+1)+1=f-k by omega,fh fn (by omega)] at h
  rw[h]
 ·
  show(_,ar (row w' w.length) (R.getD 0 0))=_;have nd:=g'.nod w.length;rw[T.rv] at nd ⊢;have l:(R.take (f+1)).reverse.length=f+1:=by rw[zr,fj];omega
  have h:=cK nd (i:=f) (by omega)
  have e0:=fh fn (cI f);have e1:=fh fn (br f);rw[Nat.sub_zero] at e0;rw[lb] at e1;rw[e0,e1] at h;rw[h]
 ·
  have hm:=zR k (by omega)
  show(_,ar (row w' (R.getD k 0)) w.length)=_;have nd:=g'.nod (R.getD k 0);have ln:=OL k (by omega)
  by_cases k0:k=0
  ·subst k0
   rw[T.r0] at nd ⊢;have h:=bE (i:=0) nd (by rw[dD];omega)
   rw[List.getD_cons_zero,rZ,(G.hd _ hm).2] at h;rw[h]
  ·rw[T.rk k (by omega) hk] at nd ⊢
   have h:=cK nd (i:=(row w (R.getD k 0)).length) (by simp)
   have e1:(row w (R.getD k 0)++ [w.length]).getD (row w (R.getD k 0)).length 0=w.length:=by
    rw[bb,iH (br _),lb];rfl
   have e2:(row w (R.getD k 0)++ [w.length]).getD 0 0=(row w (R.getD k 0)).getD 0 0:=by
    rw[bb,gE (by omega),<-bb]
   rw[e1,e2,(G.hd _ hm).2] at h;rw[h]
end
end Wb
set_option maxHeartbeats 2000000
namespace Wb
section
variable {w w':W} {R:List Nat} {f:Nat}
structure HA (w:W) (R:List Nat) (f:Nat):Prop where
 nd:(bW R f w.length).Nodup
 len:(bW R f w.length).length+f=R.length+2
 mem:∀x,x∈bW R f w.length↔x=R.getD 0 0\/x=w.length\/∃i,f<=i/\i<R.length/\x=R.getD i 0
 s0:ar (bW R f w.length) (R.getD 0 0)=w.length
 sv:ar (bW R f w.length) w.length=R.getD f 0
 si:∀i,f<=i->i<R.length->ar (bW R f w.length) (R.getD i 0)=ar R (R.getD i 0)
theorem lL(G:cJ w R)(T:Step w w' R f):HA w R f:=by
 have fn:=T.fn;have f1:=T.f1;have zR:∀k,k<R.length->R.getD k 0∈R:=λk h=>bw h;have zlt:∀k,k<R.length->R.getD k 0<w.length:=λk h=>aQ (G.hd _ (zR k h)).1;have inj:∀i j,i<R.length->j<R.length->R.getD i 0=R.getD j 0->i=j:=λi j hi hj e=>getD_inj G.nd hi hj e
 have dm:∀x,x∈R.drop f↔∃i,f<=i/\i<R.length/\x=R.getD i 0:=λx=>by
  constructor
  ·intro h
   obtain⟨i,hi,rfl⟩:=jB.mp h;rw[kY] at hi;exact⟨f+i,by omega,by omega,by rw[List.getElem_drop,bb,bL (by omega)];rfl⟩
  ·rintro⟨i,h1,h2,rfl⟩
   refine jB.mpr ⟨i-f,by rw[kY];omega,?_⟩
   rw[List.getElem_drop,bb,bL h2];simp only[show f+(i-f)=i by omega];rfl
 have nd:(bW R f w.length).Nodup:=by
  unfold bW;refine eI.mpr ⟨λh=>?_,eI.mpr ⟨λh=>?_,G.nd.sublist (List.drop_sublist _ _)⟩⟩
  ·rcases cD.mp h with h|h
   ·have:=zlt 0 (by omega);omega
   ·obtain⟨i,h1,h2,e⟩:=(dm _).mp h
    have:=inj 0 i (by omega) h2 e;omega
  ·obtain⟨i,h1,h2,e⟩:=(dm _).mp h
   have:=zlt i h2;omega
 have len:(bW R f w.length).length=R.length-f+2:=by unfold bW;simp
 have get:∀i,f<=i->i<R.length->(bW R f w.length).getD (i-f+2) 0=R.getD i 0:=λi h1 h2=>by
  unfold bW;rw[rZ,rZ,bb,Cs,show f+(i-f)=i by omega,<-bb]
 have g0:(bW R f w.length).getD 0 0=R.getD 0 0:=rfl;have g1:(bW R f w.length).getD 1 0=w.length:=rfl;refine⟨nd,by omega,λx=>?_,?_,?_,λi h1 h2=>?_⟩
 ·unfold bW
  rw[cD,cD,dm]
 ·have:=bE nd (i:=0) (by omega)
  rw[g0] at this;exact this
 ·have:=bE nd (i:=1) (by omega)
  have e:=get f (br _) fn;rw[lb] at e;rw[g1] at this;rw[this];exact e
 ·by_cases c:i+1<R.length
  ·have:=bE nd (i:=i-f+2) (by omega)
   have e:=get (i+1) (by omega) c
   rw[get i h1 h2,show i-f+2+1=i+1-f+2 by omega,e] at this
   rw[this,bE G.nd c]
  ·have:=cK nd (i:=i-f+2) (by omega)
   rw[get i h1 h2,g0] at this;rw[this,cK G.nd (by omega)]
theorem HA.lA(F:HA w R f){x y:Nat}(h:lA (bW R f w.length) x y):(x=R.getD 0 0/\y=w.length)\/(x=w.length/\y=R.getD f 0)\/∃i,f<=i/\i<R.length/\x=R.getD i 0/\y=ar R (R.getD i 0):=by
 obtain⟨hx,e⟩:=h
 rcases(F.mem x).mp hx with rfl|rfl| ⟨i,h1,h2,rfl⟩
 ·exact .inl ⟨rfl,by rw[e,F.s0]⟩
 ·exact .inr (.inl ⟨rfl,by rw[e,F.sv]⟩)
 ·exact .inr (.inr ⟨i,h1,h2,rfl,by rw[e,F.si i h1 h2]⟩)
open Classical in
theorem Hj(G:cJ w R)(T:Step w w' R f):Sb w':=by
 have g:=G.g;have g':=qm G T;have fn:=T.fn;have f1:=T.f1;have K:=nX G T;have len:=G.len;have zlt:=K.zlt;have oR:∀k,k<R.length->R.getD k 0≠w.length:=λk h=>by have:=zlt k h;omega
 have sx:∀i,i+1<R.length->ar R (R.getD i 0)=R.getD (i+1) 0:=λi h=>bE G.nd h;have se:ar R (R.getD (R.length-1) 0)=R.getD 0 0:=cK G.nd (by omega)
 intro c sy ev
 let s:Nat->Bool:=λk=>par (λi=>c w.length (R.getD i 0)) (List.range (k+1))
 let sp:Nat->Bool:=λk=>match k with|0=>false|k+1=>s k
 have ss:∀k,s (k+1)=(s k).xor (c w.length (R.getD (k+1) 0)):=λk=>by
  show par _ (List.range (k+1+1))=_;rw[List.range_succ,rj];show(s k).xor ((c w.length (R.getD (k+1) 0)).xor false)=_;rw[wZ]
 have s0:s 0=c w.length (R.getD 0 0):=by
  show(c w.length (R.getD 0 0)).xor false=_;rw[wZ]
 have Lf:R.take (f+1)=(List.range (f+1)).map λi=>R.getD i 0:=by
  refine List.ext_getElem (by rw[fj,aI,kX];omega) λi h1 h2=>?_
  rw[fj] at h1;rw[Cu,wV,List.getElem_range,bb,bL (by omega)];rfl
 have JT:∀(h:Nat->Bool)(φ:Nat->Nat)(l:List Nat),par h (l.map φ)=par (λi=>h (φ i)) l:=λh φ l=>by
  induction l with
  |nil=>rfl
  |cons a l ih=>rw[j0,par,par,ih]
 have sf:s f=false:=by
  have:=ev w.length (by rw[T.l];omega)
  rw[T.rv,BL,Lf,JT] at this;exact this
 let de:Nat->Nat->Bool:=λx y=>decide (∃k,k<f/\x=R.getD k 0/\y=R.getD (k+1) 0/\s k=true)
 have Qb:∀k,k<f->∀y,de (R.getD k 0) y=(decide (y=R.getD (k+1) 0)&&s k):=λk hk y=>by
  show decide _=_
  by_cases c1:y=R.getD (k+1) 0
  ·cases hs:s k with
   |true=>rw[decide_eq_true ⟨k,hk,rfl,c1,hs⟩,decide_eq_true c1];rfl
   |false=>
    rw[Bool.and_false];refine decide_eq_false ?_;rintro⟨j,hj,e,_,h⟩
    have:=K.inj k j (by omega) (by omega) e
    subst this;rw[hs] at h;cases h
  ·rw[decide_eq_false c1,wY]
   refine decide_eq_false ?_;rintro⟨j,hj,e,e2,h⟩
   have:=K.inj k j (by omega) (by omega) e
   subst this;exact c1 e2
 have U9:∀k,k<f->∀x,de x (R.getD (k+1) 0)=(decide (x=R.getD k 0)&&s k):=λk hk x=>by
  show decide _=_
  by_cases c1:x=R.getD k 0
  ·cases hs:s k with
   |true=>rw[decide_eq_true ⟨k,hk,c1,rfl,hs⟩,decide_eq_true c1];rfl
   |false=>
    rw[Bool.and_false];refine decide_eq_false ?_;rintro⟨j,hj,_,e,h⟩
    have:=K.inj (k+1) (j+1) (by omega) (by omega) e
    have:k=j:=by omega
    subst this;rw[hs] at h;cases h
  ·rw[decide_eq_false c1,wY]
   refine decide_eq_false ?_;rintro⟨j,hj,e2,e,h⟩
   have:=K.inj (k+1) (j+1) (by omega) (by omega) e
   have:k=j:=by omega
   subst this;exact c1 e2
 have U7:∀x y,(∀k,k<f->x≠R.getD k 0)->de x y=false:=λx y h=>decide_eq_false λ⟨k,hk,e,_⟩=>h k hk e;have U8:∀x y,(∀k,k<f->y≠R.getD (k+1) 0)->de x y=false:=λx y h=>decide_eq_false λ⟨k,hk,_,e,_⟩=>h k hk e
 have KY:∀k,k+1<R.length->R.getD (k+1) 0∈row w (R.getD k 0):=λk hk=>by
  have:=(G.hd _ (K.z k (by omega))).1
  rw[sx k hk] at this;exact this
 obtain⟨S,SF,SC⟩:=G.bnd (λx y=>((c x y).xor (de x y)).xor (de y x)) (λx y=>by
   show((c x y).xor (de x y)).xor (de y x)=((c y x).xor (de y x)).xor (de x y);rw[sy x y];cases c y x<;>cases de x y<;>cases de y x<;>rfl) (λp hp=>by
   have e:par (λy=>((c p y).xor (de p y)).xor (de y p)) (row w p)=((par (c p) (row w p)).xor (par (de p) (row w p))).xor (par (λy=>de y p) (row w p)):=by
    rw[wx (λy=>(c p y).xor (de p y)) (λy=>de y p),wx (c p) (de p)]
   rw[e];have Ba:=ev p (by rw[T.l];omega)
   by_cases hk:∃k,k<=f/\p=R.getD k 0
   ·obtain⟨k,hk,rfl⟩:=hk
    have hc:par (c (R.getD k 0)) (row w (R.getD k 0))=c w.length (R.getD k 0):=by
     by_cases k0:k=0
     ·subst k0
      rw[T.r0,par] at Ba;rw[sy w.length];cases h1:c (R.getD 0 0) w.length<;>cases h2:par (c (R.getD 0 0)) (row w (R.getD 0 0))<;>rw[h1,h2] at Ba<;>simp at Ba ⊢
     ·rw[T.rk k (by omega) hk,rj,par,par,wZ] at Ba
      rw[sy w.length];cases h1:c (R.getD k 0) w.length<;>cases h2:par (c (R.getD k 0)) (row w (R.getD k 0))<;>rw[h1,h2] at Ba<;>simp at Ba ⊢
    have h1:par (de (R.getD k 0)) (row w (R.getD k 0))=if k<f then s k else false:=by
     by_cases kf:k<f
     ·rw[if_pos kf,p9 (λy _=>Qb k kf y)]
      exact wu (g.nod _) (KY k (by omega))
     ·rw[if_neg kf]
      exact iZ λy _=>U7 _ _ λj hj e=>by have:=K.inj k j (by omega) (by omega) e;omega
    have h2:par (λy=>de y (R.getD k 0)) (row w (R.getD k 0))=sp k:=by
     cases k with
     |zero=>exact iZ λy _=>U8 _ _ λj hj e=>by have:=K.inj 0 (j+1) (by omega) (by omega) e;omega
     |succ k=>
      rw[p9 (λy _=>U9 k (by omega) y)]
      exact wu (g.nod _) (g.sym _ _ (KY k (by omega)))
    rw[hc,h1,h2];cases k with
    |zero=>
     rw[if_pos (by omega),s0]
     show((c w.length (R.getD 0 0)).xor _).xor false=false;rw[Bool.xor_self];rfl
    |succ k=>
     show(_:Bool).xor (s k)=false
     by_cases kf:k+1<f
     ·rw[if_pos kf,ss k]
      cases s k<;>cases c w.length (R.getD (k+1) 0)<;>rfl
     ·rw[if_neg kf]
      have:k+1=f:=by omega
      have h:=ss k;rw[this,sf] at h;rw[this];cases h1:s k<;>cases h2:c w.length (R.getD f 0)<;>rw[h1,h2] at h<;>simp at h ⊢
   ·have n1:∀k,k<=f->p≠R.getD k 0:=λk h z=>hk ⟨k,h,z⟩
    rw[T.ro p (by omega) n1] at Ba
    rw[Ba,iZ λy _=>U7 p y λk h=>n1 k (by omega),iZ λy _=>U8 y p λk h=>n1 (k+1) (by omega)]
    rfl)
 have yS:∀i,i<R.length->S (R.getD i 0,ar R (R.getD i 0))=S (R.getD 0 0,ar R (R.getD 0 0)):=by
  intro i
  induction i with
  |zero=>intro _;rfl
  |succ i ih=>
   intro h;rw[<-ih (by omega)]
   have d:bo w (R.getD i 0,ar R (R.getD i 0)):=(G.hd _ (K.z i (by omega))).1
   rw[SF _ d,G.outer ⟨K.z i (by omega),rfl⟩,sx i h]
 generalize ho:S (R.getD 0 0,ar R (R.getD 0 0))=o at yS
 let ix:Nat->Nat:=λx=>R.idxOf x
 have Q7:∀k,k<R.length->ix (R.getD k 0)=k:=λk hk=>by
  show R.idxOf _=k;rw[bb,bL hk];exact G.nd.idxOf_getElem k hk
 let U:Nat×Nat->Bool:=λd=>if d.1=w.length then o.xor (s (ix d.2)) else if d.2=w.length then o.xor (sp (ix d.1)) else if ∃k,k<f/\d.1=R.getD k 0/\d.2=R.getD (k+1) 0 then o.xor (s (ix d.1)) else S d
 have Uv:∀k,k<=f->U (w.length,R.getD k 0)=o.xor (s k):=λk hk=>by
  show(if w.length=w.length then o.xor (s (ix (R.getD k 0))) else _)=_;rw[if_pos rfl,Q7 k (by omega)]
 have Ux:∀k,k<=f->U (R.getD k 0,w.length)=o.xor (sp k):=λk hk=>by
  show(if R.getD k 0=w.length then _ else if w.length=w.length then o.xor (sp (ix (R.getD k 0))) else _)=_;rw[if_neg (oR k (by omega)),if_pos rfl,Q7 k (by omega)]
 have Ua:∀k,k<f->U (R.getD k 0,R.getD (k+1) 0)=o.xor (s k):=λk hk=>by
  show(if R.getD k 0=w.length then _ else if R.getD (k+1) 0=w.length then _ else if _ then o.xor (s (ix (R.getD k 0))) else _)=_;rw[if_neg (oR k (by omega)),if_neg (oR (k+1) (by omega)),if_pos ⟨k,hk,rfl,rfl⟩,Q7 k (by omega)]
 have Uo:∀x y,x≠w.length->y≠w.length->(∀k,k<f->x=R.getD k 0->y≠R.getD (k+1) 0)->U (x,y)=S (x,y):=λx y h1 h2 h3=>by
  show(if x=w.length then _ else if y=w.length then _ else if _ then _ else S (x,y))=_;rw[if_neg h1,if_neg h2,if_neg (λ⟨k,hk,e1,e2⟩=>h3 k hk e1 e2)]
 have Yy:∀b:Bool,b.xor false=b:=wZ;refine⟨U,λd hd=>?_,λx y hd=>?_⟩
 ·obtain⟨x,y⟩:=d
  by_cases xv:x=w.length
  ·subst xv
   obtain⟨k,hk,rfl⟩:=(K.dv y).mp hd;rw[K.n4 k hk,Uv k hk]
   by_cases kf:k<f
   ·rw[sx k (by omega),Ua k kf]
   ·have:k=f:=by omega
    subst this
    rw[Uo _ _ (oR k (by omega)) (by
     have:=e7 (K.z k (by omega))
     have:=aQ (G.hd _ this).1
     omega) (λj hj e=>by have:=K.inj k j (by omega) (by omega) e;omega),yS k (by omega),sf,Yy]
  ·by_cases yv:y=w.length
   ·subst yv
    rcases(K.dx x xv _).mp hd with h| ⟨_,k,hk,rfl⟩
    ·exact absurd (g.rng _ _ h) (gI _)
    ·cases k with
     |zero=>
      rw[K.n3e,Ux 0 hk,Uv f (br _),sf]
     |succ k=>
      rw[K.n3 k (by omega),Ux (k+1) hk,Uv k (by omega)]
   ·have d0:bo w (x,y):=by
     rcases(K.dx x xv y).mp hd with h| ⟨h,_⟩
     ·exact h
     ·exact absurd h yv
    by_cases ad:lA R x y
    ·obtain⟨hx,rfl⟩:=ad
     obtain⟨i,hi,rfl⟩:∃i,i<R.length/\x=R.getD i 0:=by
      obtain⟨i,hi,e⟩:=jB.mp hx;exact⟨i,hi,by rw[bb,bL hi];exact e.symm⟩
     by_cases c1:i<f
     ·rw[sx i (by omega),K.n2 i c1,Ua i c1,Ux (i+1) (by omega)]
     ·have u1:U (R.getD i 0,ar R (R.getD i 0))=o:=by
       rw[Uo _ _ xv yv (λj hj e=>by have:=K.inj i j (by omega) (by omega) e;omega),yS i hi]
      rw[u1]
      by_cases c2:i+1<R.length
      ·rw[sx i c2,K.n1o i (by omega) c2,Uo _ _ (oR _ c2) (by
        have:=e7 (K.z (i+1) c2)
        have:=aQ (G.hd _ this).1
        omega) (λj hj e=>by have:=K.inj (i+1) j (by omega) (by omega) e;omega),yS (i+1) c2]
      ·have:i=R.length-1:=by omega
       subst this;rw[se,K.n1e,Ux 0 (cI _)];exact(Yy o).symm
    ·have e:=K.n1 x y d0 ad
     have tr:=(G.tri x y d0 ad).2;have dn:=gm g d0
     have lo:∀p q,bo w (p,q)->¬lA R p q->U (p,q)=S (p,q):=λp q h1 h2=>by
      have a1:=aQ (show q∈row w p from h1);have a2:=g.rng _ _ (show q∈row w p from h1);exact Uo p q (by omega) (by omega) λk hk e1 e2=>h2 ⟨by rw[e1];exact K.z k (by omega),by rw[e1,e2,sx k (by omega)]⟩
     rw[e,lo x y d0 ad,SF _ d0];exact(lo _ _ dn tr).symm
 ·by_cases xv:x=w.length
  ·subst xv
   obtain⟨k,hk,rfl⟩:=(K.dv y).mp hd;rw[Uv k hk,Ux k hk];cases k with
   |zero=>
    rw[s0];show(o.xor _).xor (o.xor false)=_;cases o<;>cases c w.length (R.getD 0 0)<;>rfl
   |succ k=>
    rw[ss k];show(o.xor _).xor (o.xor (s k))=_;cases o<;>cases s k<;>cases c w.length (R.getD (k+1) 0)<;>rfl
  ·by_cases yv:y=w.length
   ·subst yv
    rcases(K.dx x xv _).mp hd with h| ⟨_,k,hk,rfl⟩
    ·exact absurd (g.rng _ _ h) (gI _)
    ·rw[Uv k hk,Ux k hk,sy]
     cases k with
     |zero=>
      rw[s0];show(o.xor false).xor (o.xor _)=_;cases o<;>cases c w.length (R.getD 0 0)<;>rfl
     |succ k=>
      rw[ss k];show(o.xor (s k)).xor (o.xor _)=_;cases o<;>cases s k<;>cases c w.length (R.getD (k+1) 0)<;>rfl
   ·have d0:bo w (x,y):=by
     rcases(K.dx x xv y).mp hd with h| ⟨h,_⟩
     ·exact h
     ·exact absurd h yv
    have sc:=SC x y d0
    by_cases a1:∃k,k<f/\x=R.getD k 0/\y=R.getD (k+1) 0
    ·obtain⟨k,hk,rfl,rfl⟩:=a1
     have e1:S (R.getD k 0,R.getD (k+1) 0)=o:=by rw[<-sx k (by omega)];exact yS k (by omega)
     have e2:de (R.getD k 0) (R.getD (k+1) 0)=s k:=by rw[Qb k hk];simp
     have e3:de (R.getD (k+1) 0) (R.getD k 0)=false:=decide_eq_false λ⟨j,hj,e,e',_⟩=>by
      have:=K.inj (k+1) j (by omega) (by omega) e
      have:=K.inj k (j+1) (by omega) (by omega) e'
      omega
     rw[Ua k hk,Uo _ _ (oR (k+1) (by omega)) (oR k (by omega)) (λj hj e e'=>by
      have:=K.inj (k+1) j (by omega) (by omega) e
      have:=K.inj k (j+1) (by omega) (by omega) e'
      omega)]
     rw[e1,e2,e3] at sc
     revert sc
     cases o<;>cases s k<;>cases S (R.getD (k+1) 0,R.getD k 0)<;>cases c (R.getD k 0) (R.getD (k+1) 0)<;>simp
    ·by_cases a2:∃k,k<f/\y=R.getD k 0/\x=R.getD (k+1) 0
     ·obtain⟨k,hk,rfl,rfl⟩:=a2
      have e1:S (R.getD k 0,R.getD (k+1) 0)=o:=by rw[<-sx k (by omega)];exact yS k (by omega)
      have e2:de (R.getD k 0) (R.getD (k+1) 0)=s k:=by rw[Qb k hk];simp
      have e3:de (R.getD (k+1) 0) (R.getD k 0)=false:=decide_eq_false λ⟨j,hj,e,e',_⟩=>by
       have:=K.inj (k+1) j (by omega) (by omega) e
       have:=K.inj k (j+1) (by omega) (by omega) e'
       omega
      rw[Ua k hk,Uo _ _ (oR (k+1) (by omega)) (oR k (by omega)) (λj hj e e'=>a1 ⟨j,hj,e,e'⟩)]
      rw[e1,e2,e3] at sc
      revert sc
      cases o<;>cases s k<;>cases S (R.getD (k+1) 0,R.getD k 0)<;>cases c (R.getD (k+1) 0) (R.getD k 0)<;>simp
     ·have e2:de x y=false:=decide_eq_false λ⟨j,hj,e,e',_⟩=>a1 ⟨j,hj,e,e'⟩
      have e3:de y x=false:=decide_eq_false λ⟨j,hj,e,e',_⟩=>a2 ⟨j,hj,e,e'⟩;rw[Uo x y xv yv (λj hj e e'=>a1 ⟨j,hj,e,e'⟩),Uo y x yv xv (λj hj e e'=>a2 ⟨j,hj,e,e'⟩),sc,e2,e3];simp
theorem ua(G:cJ w R)(T:Step w w' R f):cJ w' (bW R f w.length):=by
 have g:=G.g;have g':=qm G T;have fn:=T.fn;have f1:=T.f1;have K:=nX G T;have F:=lL G T;have len:=G.len;have oR:∀k,k<R.length->R.getD k 0≠w.length:=λk h=>by have:=K.zlt k h;omega
 have sx:∀i,i+1<R.length->ar R (R.getD i 0)=R.getD (i+1) 0:=λi h=>bE G.nd h;have se:ar R (R.getD (R.length-1) 0)=R.getD 0 0:=cK G.nd (by omega)
 have OI:∀k,k<R.length->(row w (R.getD k 0)).length≠0:=λk hk z=>by
  have:=(G.hd _ (K.z k hk)).1
  rw[Fy.mp z] at this;cases this
 have rvl:(R.take (f+1)).reverse.length=f+1:=by rw[zr,fj];omega
 have e0:=fh fn (cI f);have ef:=fh fn (br f);rw[Nat.sub_zero] at e0;rw[lb] at ef;have m0:R.getD 0 0∈bW R f w.length:=(F.mem _).mpr (.inl rfl);have mv:w.length∈bW R f w.length:=(F.mem _).mpr (.inr (.inl rfl));have mi:∀i,f<=i->i<R.length->R.getD i 0∈bW R f w.length:=λi h1 h2=>(F.mem _).mpr (.inr (.inr ⟨i,h1,h2,rfl⟩));have Fj:∀i,f<i->i<R.length->row w' (R.getD i 0)=row w (R.getD i 0):=λi h1 h2=>T.ro _ (oR i h2) λk hk e=>by have:=K.inj i k h2 (by omega) e;omega
 refine⟨g',F.nd,by have:=F.len;omega,λx hx=>?_,λx hx=>?_,λx y hd n=>?_,Hj G T⟩
 ·rcases(F.mem x).mp hx with rfl|rfl| ⟨i,h1,h2,rfl⟩
  ·rw[F.s0,T.r0]
   exact⟨cw ..,rfl⟩
  ·rw[F.sv,T.rv]
   exact⟨by rw[<-ef];exact bw (by omega),ef⟩
  ·rw[F.si i h1 h2]
   have h:=G.hd _ (K.z i h2)
   by_cases c:i=f
   ·subst c
    rw[T.rk i f1 (br _)];refine⟨mE _ h.1,?_⟩;rw[bb,gE (by have:=OI i h2;omega),<-bb]
    exact h.2
   ·rw[Fj i (by omega) h2];exact h
 ·rcases(F.mem x).mp hx with rfl|rfl| ⟨i,h1,h2,rfl⟩
  ·have h:=G.ls _ (K.z 0 (by omega))
   have el:(row w' (R.getD 0 0)).getD ((row w' (R.getD 0 0)).length-1) 0=R.getD (R.length-1) 0:=by
    have l0:=OI 0 (by omega)
    rw[T.r0,dD,show(row w (R.getD 0 0)).length+1-1=(row w (R.getD 0 0)).length-1+1 by omega,rZ]
    exact lT G.nd h.1 (K.z _ (by omega)) (by rw[h.2,se])
   rw[el];exact⟨mi _ (by omega) (by omega),by rw[F.si _ (by omega) (by omega),se]⟩
  ·rw[T.rv,rvl,show f+1-1=f by omega,e0]
   exact⟨m0,F.s0⟩
  ·by_cases c:i=f
   ·subst c
    have el:(row w' (R.getD i 0)).getD ((row w' (R.getD i 0)).length-1) 0=w.length:=by
     rw[T.rk i f1 (br _),dG,xg,Nat.add_sub_cancel,bb,iH (br _),lb];rfl
    rw[el];exact⟨mv,F.sv⟩
   ·obtain⟨e,ne⟩:=G.sU (K.z i h2) (K.z (i-1) (by omega)) (by rw[sx (i-1) (by omega),show i-1+1=i by omega])
    rw[Fj i (by omega) h2,e]
    refine⟨mi _ (by omega) (by omega),?_⟩
    rw[F.si _ (by omega) (by omega),sx (i-1) (by omega),show i-1+1=i by omega]
 ·by_cases xv:x=w.length
  ·subst xv
   obtain⟨k,hk,rfl⟩:=(K.dv y).mp hd
   have kf:k<f:=by
    apply Classical.byContradiction;intro c
    have:k=f:=by omega
    subst this;exact n ⟨mv,F.sv.symm⟩
   have e1:=K.n4 k hk;rw[sx k (by omega)] at e1
   rw[e1,K.n2 k kf,K.n3 k kf];refine⟨rfl,λz=>?_⟩
   rcases F.lA z with ⟨_,h⟩ | ⟨h,_⟩ | ⟨i,h1,h2,h3,_⟩
   ·exact oR (k+1) (by omega) h
   ·exact oR k (by omega) h
   ·have:=K.inj k i (by omega) h2 h3;omega
  ·by_cases yv:y=w.length
   ·subst yv
    rcases(K.dx x xv _).mp hd with h| ⟨_,k,hk,rfl⟩
    ·exact absurd (g.rng _ _ h) (gI _)
    ·cases k with
     |zero=>exact absurd ⟨m0,F.s0.symm⟩ n
     |succ k=>
      have e4:=K.n4 k (by omega)
      rw[sx k (by omega)] at e4
      rw[K.n3 k (by omega),e4,K.n2 k (by omega)]
      refine⟨rfl,λz=>?_⟩
      rcases F.lA z with ⟨h,_⟩ | ⟨_,h⟩ | ⟨i,h1,h2,h3,_⟩
      ·exact oR 0 (by omega) h.symm
      ·have:=K.inj k f (by omega) fn h;omega
      ·exact oR i h2 h3.symm
   ·have d0:bo w (x,y):=by
     rcases(K.dx x xv y).mp hd with h| ⟨h,_⟩
     ·exact h
     ·exact absurd h yv
    by_cases ad:lA R x y
    ·obtain⟨hx,rfl⟩:=ad
     obtain⟨i,hi,rfl⟩:∃i,i<R.length/\x=R.getD i 0:=by
      obtain⟨i,hi,e⟩:=jB.mp hx;exact⟨i,hi,by rw[bb,bL hi];exact e.symm⟩
     have c1:i<f:=by
      apply Classical.byContradiction;intro c;exact n ⟨mi i (by omega) hi,(F.si i (by omega) hi).symm⟩
     have e4:=K.n4 i (by omega)
     rw[sx i (by omega)] at e4
     rw[sx i (by omega),K.n2 i c1,K.n3 i c1,e4]
     refine⟨rfl,λz=>?_⟩
     rcases F.lA z with ⟨h,_⟩ | ⟨h,_⟩ | ⟨j,h1,h2,_,h4⟩
     ·have:=K.inj (i+1) 0 (by omega) (by omega) h;omega
     ·exact oR (i+1) (by omega) h
     ·have:=e7 (K.z j h2)
      have:=aQ (G.hd _ this).1
      have h4:w.length=ar R (R.getD j 0):=h4;omega
    ·have step:∀p q,bo w (p,q)->¬lA R p q->bA w' (p,q)=bA w (p,q):=λp q h1 h2=>K.n1 p q h1 h2
     have t1:=G.tri x y d0 ad;have d1:=gm g d0;have t2:=G.tri _ _ d1 t1.2;have d2:=gm g d1;have e1:=step x y d0 ad;have e2:bA w' (bA w (x,y))=bA w (bA w (x,y)):=step _ _ d1 t1.2;have e3:bA w' (bA w (bA w (x,y)))=bA w (bA w (bA w (x,y))):=step _ _ d2 t2.2;rw[e1,e2,e3];refine⟨t1.1,λz=>?_⟩;have b1:=aQ (show(bA w (x,y)).2∈row w (bA w (x,y)).1 from d1);have b2:=g.rng _ _ (show(bA w (x,y)).2∈row w (bA w (x,y)).1 from d1)
     rcases F.lA z with ⟨_,h⟩ | ⟨h,_⟩ | ⟨i,h1,h2,h3,h4⟩
     ·omega
     ·omega
     ·exact t1.2 ⟨by rw[h3];exact K.z i h2,by rw[h4,<-h3]⟩
theorem zS:cJ [[1,2],[2,0],[0,1]] [0,1,2]:=by
 have Fi:row [[1,2],[2,0],[0,1]] 0= [1,2]:=rfl;have OR:row [[1,2],[2,0],[0,1]] 1= [2,0]:=rfl;have Zk:row [[1,2],[2,0],[0,1]] 2= [0,1]:=rfl;have Fj:∀x,3<=x->row [[1,2],[2,0],[0,1]] x= []:=λx h=>wB h;have c3:∀x,x<3->x=0\/x=1\/x=2:=λx h=>by omega
 have rl:∀{x y},y∈row [[1,2],[2,0],[0,1]] x->x<3:=λh=>aQ h;have dec:∀x,x<3->∀y,y<3->(y∈row [[1,2],[2,0],[0,1]] x↔x≠y):=by decide
 have inR:∀{x y},y∈row [[1,2],[2,0],[0,1]] x->y<3:=λ {x y} h=>by
  rcases c3 x (rl h) with rfl|rfl|rfl
  ·rw[Fi] at h;simp at h;omega
  ·rw[OR] at h;simp at h;omega
  ·rw[Zk] at h;simp at h;omega
 have g:Good [[1,2],[2,0],[0,1]]:=by
  refine⟨λp q h=>inR h,λp h=>?_,λp=>?_,λp q h=>?_,λp hp=>?_⟩
  ·exact((dec p (rl h) p (rl h)).mp h) rfl
  ·by_cases c:p<3
   ·rcases c3 p c with rfl|rfl|rfl<;>decide
   ·rw[Fj p (by omega)];exact iL
  ·have a:=rl h
   have b:=inR h;exact(dec q b p a).mpr (Ne.symm ((dec p a q b).mp h))
  ·rcases c3 p hp with rfl|rfl|rfl
   ·exact .refl _
   ·exact .step (.refl _) (by rw[Fi];simp)
   ·exact .step (.refl _) (by rw[Fi];simp)
 have zG:∀x y,bo [[1,2],[2,0],[0,1]] (x,y)->(x,y)∈ [(0,1),(1,2),(2,0),(1,0),(0,2),(2,1)]:=λx y h=>by
  have a:=rl h;have b:=inR h;have n:=(dec x a y b).mp h
  rcases c3 x a with rfl|rfl|rfl<;>rcases c3 y b with rfl|rfl|rfl<;>first|exact absurd rfl n|decide
 have sc:ar [0,1,2] 0=1/\ar [0,1,2] 1=2/\ar [0,1,2] 2=0:=by decide
 refine⟨g,by decide,by decide,by decide,by decide,λx y hd n=>?_,?_⟩
 ·have hm:=zG x y hd
  simp only[cD,Prod.mk.injEq,iK,or_false] at hm
  rcases hm with ⟨rfl,rfl⟩ | ⟨rfl,rfl⟩ | ⟨rfl,rfl⟩ | ⟨rfl,rfl⟩ | ⟨rfl,rfl⟩ | ⟨rfl,rfl⟩
  ·exact absurd ⟨by simp,sc.1.symm⟩ n
  ·exact absurd ⟨by simp,sc.2.1.symm⟩ n
  ·exact absurd ⟨by simp,sc.2.2.symm⟩ n
  ·exact⟨by decide,λz=>by have h:=z.2;revert h;decide⟩
  ·exact⟨by decide,λz=>by have h:=z.2;revert h;decide⟩
  ·exact⟨by decide,λz=>by have h:=z.2;revert h;decide⟩
 ·intro c sy ev
  have h0:=ev 0 (by decide)
  have h1:=ev 1 (by decide)
  rw[Fi] at h0;rw[OR] at h1;simp only[par,wZ] at h0 h1;refine⟨λd=>decide (d=(1,0)\/d=(0,2)\/d=(2,1))&&c 0 1,λd hd=>?_,λx y hd=>?_⟩
  ·obtain⟨x,y⟩:=d
   have hm:=zG x y hd;simp only[cD,Prod.mk.injEq,iK,or_false] at hm
   rcases hm with ⟨rfl,rfl⟩ | ⟨rfl,rfl⟩ | ⟨rfl,rfl⟩ | ⟨rfl,rfl⟩ | ⟨rfl,rfl⟩ | ⟨rfl,rfl⟩<;>(refine congrArg (·&&c 0 1) ?_;decide)
  ·have hm:=zG x y hd
   simp only[cD,Prod.mk.injEq,iK,or_false] at hm;have e1:c 0 2=c 0 1:=by revert h0;cases c 0 1<;>cases c 0 2<;>simp
   have e2:c 1 2=c 0 1:=by
    rw[sy 1 0] at h1
    revert h1;cases c 0 1<;>cases c 1 2<;>simp
   rcases hm with ⟨rfl,rfl⟩ | ⟨rfl,rfl⟩ | ⟨rfl,rfl⟩ | ⟨rfl,rfl⟩ | ⟨rfl,rfl⟩ | ⟨rfl,rfl⟩
   ·simp
   ·simp[e2]
   ·rw[sy 2 0,e1];simp
   ·rw[sy 1 0];simp
   ·simp[e1]
   ·rw[sy 2 1,e2];simp
end
structure ui (w w':W) (f:Nat->Nat):Prop where
 len:w'.length=w.length
 lt:∀x,x<w.length->f x<w.length
 inj:∀x y,x<w.length->y<w.length->f x=f y->x=y
 onto:∀y,y<w.length->∃x,x<w.length/\f x=y
 rows:∀x,x<w.length->∃a b,row w x=a++b/\row w' (f x)=(b++a).map f
theorem vJ{f:Nat->Nat}{x:Nat}:∀{l:List Nat},(∀y∈l,f y=f x->y=x)->(l.map f).idxOf (f x)=l.idxOf x
 | [],_=>rfl
 |a::l,h=>by
  rw[j0,List.idxOf_cons,List.idxOf_cons,vJ λy hy=>h y (b8 _ hy)]
  by_cases c:a=x
  ·subst c;simp
  ·have:f a≠f x:=λz=>c (h a (cw ..) z)
   have e1:(f a==f x)=false:=by simpa using this
   have e2:(a==x)=false:=by simpa using c
   rw[e1,e2]
theorem Ej{f:Nat->Nat}{l:List Nat}{x:Nat}(h:∀y∈l,f y=f x->y=x)(hx:x∈l):ar (l.map f) (f x)=f (ar l x):=by
 have e:=lS hx;show(l.map f).getD (((l.map f).idxOf (f x)+1)%(l.map f).length) 0=_;rw[vJ h,aI,bb,cL,e];rfl
section
variable {w w':W} {f:Nat->Nat}
theorem ui.good(N:ui w w' f)(g:Good w):Good w':=
 good_ren g N.len N.lt N.inj N.onto λp hp=>by
  obtain⟨a,b,e1,e2⟩:=N.rows p hp;rw[e1,e2];exact(List.perm_append_comm (l₁:=b) (l₂:=a)).map f
theorem ui.mem(N:ui w w' f){x z:Nat}(hx:x<w.length):z∈row w' (f x)↔∃y,y∈row w x/\f y=z:=by
 obtain⟨a,b,e1,e2⟩:=N.rows x hx;rw[e2,dE]
 constructor
 ·rintro⟨y,hy,rfl⟩
  exact⟨y,by rw[e1];exact List.perm_append_comm.mem_iff.mp hy,rfl⟩
 ·rintro⟨y,hy,rfl⟩
  rw[e1] at hy;exact⟨y,List.perm_append_comm.mem_iff.mp hy,rfl⟩
theorem ui.all(N:ui w w' f)(g:Good w){d:Nat×Nat}(h:bo w' d):∃x y,bo w (x,y)/\d=(f x,f y):=by
 obtain⟨a,b⟩:=d;have ha:=aQ (show b∈row w' a from h);rw[N.len] at ha;obtain⟨x,hx,rfl⟩:=N.onto a ha;obtain⟨y,hy,e⟩:=(N.mem hx).mp h;have e:f y=b:=e;exact⟨x,y,hy,by rw[e]⟩
theorem ui.succ(N:ui w w' f)(g:Good w){x y:Nat}(h:y∈row w x):ar (row w' (f x)) (f y)=f (ar (row w x) y):=by
 obtain⟨a,b,e1,e2⟩:=N.rows x (aQ h);have hm:y∈a++b:=e1▸h;have mI:y∈b++a:=List.perm_append_comm.mem_iff.mp hm;have nd:=g.nod x;rw[e1] at nd;rw[e2,e1,Ej (λz hz e=>N.inj z y (g.rng x z (by rw[e1];exact List.perm_append_comm.mem_iff.mp hz)) (g.rng _ _ h) e) mI,wJ nd hm]
theorem ui.Rj(N:ui w w' f)(g:Good w){x y:Nat}(h:bo w (x,y)):bA w' (f x,f y)=(f (bA w (x,y)).1,f (bA w (x,y)).2):=by
 show(f y,ar (row w' (f y)) (f x))=(f y,f (ar (row w y) x));rw[N.succ g (g.sym _ _ h)]
open Classical in
end
theorem cJ.three{w:W}{R:List Nat}(G:cJ w R)(l3:R.length=3){d:Nat×Nat}(hd:bo w d):bA w (bA w (bA w d))=d:=by
 by_cases c:lA R d.1 d.2
 ·have e1:bA w d=(d.2,ar R d.2):=G.outer c
  have m2:d.2∈R:=by rw[c.2];exact e7 c.1
  have e2:=G.outer (x:=d.2) (y:=ar R d.2) ⟨m2,rfl⟩;have m3:=e7 m2;have e3:=G.outer (x:=ar R d.2) (y:=ar R (ar R d.2)) ⟨m3,rfl⟩;rw[e1,e2,e3,c.2]
  have key:∀x∈R,ar R (ar R (ar R x))=x:=λx hx=>by
   match R,l3,G.nd,hx with
   | [a,b,e],_,nd,hx=>
    simp only[eI,cD,iK,or_false,not_or] at nd;have s1:ar [a,b,e] a=b:=fz (a:= []) (b:= [e]) (by simp[nd])
    have s2:ar [a,b,e] b=e:=fz (a:= [a]) (b:= []) (by simp[nd])
    have s3:ar [a,b,e] e=a:=jV (b:= [b]) (by simp[nd])
    simp only[cD,iK,or_false] at hx
    rcases hx with rfl|rfl|rfl
    ·rw[s1,s2,s3]
    ·rw[s2,s3,s1]
    ·rw[s3,s1,s2]
  rw[key _ c.1];exact Prod.ext rfl c.2.symm
 ·exact(G.tri d.1 d.2 hd c).1
theorem rH{w:W}{i x:Nat}{r:List Nat}(h:i<w.length):row (w.set i r) x=if i=x then r else row w x:=by
 unfold row;rw[bb,gM,bb]
 by_cases e:i=x
 ·subst e;rw[if_pos rfl,if_pos h,if_pos rfl];rfl
 ·rw[if_neg e,if_neg e]
theorem kM{w:W}{x:Nat}{r:List Nat}:row (w++ [r]) x=if x=w.length then r else row w x:=by
 unfold row;rw[bb,bb]
 by_cases c:x<w.length
 ·rw[gE c,if_neg (by omega)]
 ·by_cases e:x=w.length
  ·subst e;rw[if_pos rfl];simp
  ·rw[if_neg e,eQ (by simp;omega),eQ (by omega)]
structure u0 (w w':W) (R:List Nat) (f k:Nat):Prop where
 l:w'.length=w.length+1
 rv:row w' w.length=(R.take (f+1)).reverse
 r0:row w' (R.getD 0 0)=w.length::row w (R.getD 0 0)
 rk:∀i,1<=i->i<=k->row w' (R.getD i 0)=row w (R.getD i 0)++ [w.length]
 ro:∀x,x≠w.length->(∀i,i<=k->x≠R.getD i 0)->row w' x=row w x
theorem u0.start{w:W}{R:List Nat}{f:Nat}(h:R.getD 0 0<w.length):u0 w ((w++ [(R.take (f+1)).reverse]).set (R.getD 0 0) (w.length::row w (R.getD 0 0))) R f 0:=by
 have hl:(w++ [(R.take (f+1)).reverse]).length=w.length+1:=by simp
 have rp:∀x,row ((w++ [(R.take (f+1)).reverse]).set (R.getD 0 0) (w.length::row w (R.getD 0 0))) x=_:=λx=>rH (x:=x) (by omega)
 refine⟨by rw[cM];exact hl,?_,?_,λi h1 h2=>by omega,λx h1 h2=>?_⟩
 ·rw[rp,if_neg (by omega),kM,if_pos rfl]
 ·rw[rp,if_pos rfl]
 ·rw[rp,if_neg (λz=>h2 0 (br _) z.symm),kM,if_neg h1]
theorem u0.step{w w':W}{R:List Nat}{f k:Nat}(M:u0 w w' R f k)(nd:R.Nodup)(hf:f<R.length)(hk:k+1<=f)(h:R.getD (k+1) 0<w.length):u0 w (w'.set (R.getD (k+1) 0) (row w' (R.getD (k+1) 0)++ [w.length])) R f (k+1):=by
 have ne:∀i,i<=k->R.getD (k+1) 0≠R.getD i 0:=λi hi e=>by
  have:=getD_inj nd (by omega) (by omega) e;omega
 have rp:∀x,row (w'.set (R.getD (k+1) 0) (row w' (R.getD (k+1) 0)++ [w.length])) x=_:=λx=>rH (x:=x) (by rw[M.l];omega)
 refine⟨by rw[cM];exact M.l,?_,?_,λi h1 h2=>?_,λx h1 h2=>?_⟩
 ·rw[rp,if_neg (by omega)];exact M.rv
 ·rw[rp,if_neg (ne 0 (by omega))];exact M.r0
 ·by_cases c:i=k+1
  ·subst c
   rw[rp,if_pos rfl,M.ro _ (by omega) (λi hi=>ne i hi)]
  ·rw[rp,if_neg (ne i (by omega))];exact M.rk i h1 (by omega)
 ·rw[rp,if_neg (λz=>h2 (k+1) (br _) z.symm)]
  exact M.ro x h1 λi hi=>h2 i (by omega)
theorem u0.fin{w w':W}{R:List Nat}{f:Nat}(M:u0 w w' R f f)(f1:1<=f)(hf:f<R.length):Step w w' R f:=⟨M.l,f1,hf,M.rv,M.r0,M.rk,M.ro⟩
theorem cJ.Ko{w:W}{R:List Nat}(G:cJ w R){x:Nat}(h:x∈R):x<w.length:=aQ (G.hd x h).1
theorem cJ.RJ{w:W}{R:List Nat}(G:cJ w R):R.length<=w.length:=by
 have:=bg G.nd (m:=List.range w.length) λx hx=>eJ.mpr (G.Ko hx)
 rw[kX] at this;exact this
theorem Good.Ao{w:W}(g:Good w)(h2:2<=w.length){p:Nat}(hp:p<w.length):row w p≠ []:=by
 obtain⟨p',gJ,ne⟩:∃p',p'<w.length/\p'≠p:=by
  by_cases c:p=0
  ·exact⟨1,by omega,by omega⟩
  ·exact⟨0,by omega,by omega⟩
 have r:=((g.con p' gJ).symm g.sym).trans (g.con p hp);cases r with
 |refl=>exact absurd rfl ne
 |step _ h=>
  have:=g.sym _ _ h
  intro e;rw[e] at this;cases this
structure qq (w:W) (c:Nat->Nat):Prop where
 lt:∀p,p<w.length->c p<3
 ne:∀p q,q∈row w p->c p≠c q
def pF(w:W):Prop:=∀d,bo w d->bA w (bA w (bA w d))=d
theorem alt{c:Nat->Nat}{l:List Nat}{a:Nat}(ha:a<3)(h3:∀x∈l,c x<3/\c x≠a)(hs:∀i,i+1<l.length->c (l.getD i 0)≠c (l.getD (i+1) 0)):∀k,2*k<l.length->c (l.getD (2*k) 0)=c (l.getD 0 0)
 |0,_=>rfl
 |k+1,h=>by
  have ih:=alt ha h3 hs k (by omega)
  have h0:=h3 _ (bw (l:=l) (i:=2*k) (by omega))
  have h1:=h3 _ (bw (l:=l) (i:=2*k+1) (by omega))
  have h2:=h3 _ (bw (l:=l) (i:=2*k+1+1) (by omega))
  have e1:=hs (2*k) (by omega)
  have e2:=hs (2*k+1) (by omega)
  rw[show 2*(k+1)=2*k+1+1 by omega,<-ih]
  omega
theorem Fu{w:W}(g:Good w){p q:Nat}(h:q∈row w p)(T:bA w (bA w (bA w (q,p)))=(q,p)):ar (row w p) q∈row w q:=by
 have hr:=e7 h;have e:ar (row w (ar (row w p) q)) p=q:=congrArg Prod.fst T
 have:=e7 (g.sym _ _ hr)
 rw[e] at this;exact g.sym _ _ this
theorem pF.KY{w:W}(T:pF w)(g:Good w){p q:Nat}(h:q∈row w p):ar (row w p) q∈row w q:=Fu g h (T _ (g.sym _ _ h))
theorem qq.Vk{w:W}{c:Nat->Nat}(C:qq w c)(g:Good w)(T:pF w){p:Nat}(hp:p<w.length):(row w p).length%2=0:=by
 apply Classical.byContradiction;intro z
 have a:=alt (c:=c) (l:=row w p) (C.lt p hp) (λx hx=>⟨C.lt x (g.rng _ _ hx),λe=>C.ne p x hx e.symm⟩) (λi hi=>by
  have hm:=bw (l:=row w p) (i:=i) (by omega)
  have:=T.KY g hm
  rw[bE (g.nod p) hi] at this;exact C.ne _ _ this) ((row w p).length / 2) (by omega)
 have hl:2*((row w p).length / 2)=(row w p).length-1:=by omega
 rw[hl] at a;have hm:=bw (l:=row w p) (i:=(row w p).length-1) (by omega)
 have:=T.KY g hm
 rw[cK (g.nod p) (by omega)] at this
 exact C.ne _ _ this a
theorem HS{l:List Nat}(nd:l.Nodup){q:Nat}(hq:q∈l){P:Nat->Prop}(h0:P q)(hs:∀x∈l,P x->P (ar l x)):∀x∈l,P x:=by
 obtain⟨i,hi,rfl⟩:=jB.mp hq;have ei:l[i]=l.getD i 0:=by rw[bb,bL hi];rfl
 rw[ei] at h0
 have step:∀j,j<l.length->P (l.getD j 0)->P (l.getD ((j+1)%l.length) 0):=λj hj h=>by
  have:=hs _ (bw hj) h
  by_cases c:j+1<l.length
  ·rw[r8 c,<-bE nd c];exact this
  ·rw[show j+1=l.length by omega,Nat.mod_self,<-cK nd (i:=j) (by omega)];exact this
 have all:∀k,P (l.getD ((i+k)%l.length) 0):=λk=>by
  induction k with
  |zero=>rw[Nat.add_zero,r8 hi];exact h0
  |succ k ih=>
   have:=step _ (uf _ (by omega)) ih
   rw[Nat.mod_add_mod] at this;exact this
 intro x hx;obtain⟨j,hj,rfl⟩:=jB.mp hx;have ej:l[j]=l.getD j 0:=by rw[bb,bL hj];rfl
 have:=all (j+l.length-i)
 rw[show i+(j+l.length-i)=j+l.length by omega,Nat.add_mod_right,r8 hj,<-ej] at this
 exact this
theorem zD{w:W}(g:Good w){S:Nat->Prop}{a:Nat}(ha:a<w.length)(h0:S a)(hc:∀p q,S p->q∈row w p->S q):∀p,p<w.length->S p:=λp hp=>by
 have r:Reach w a p:=(Reach.symm g.sym (g.con a ha)).trans (g.con p hp);clear hp
 induction r with
 |refl=>exact h0
 |step _ h ih=>exact hc _ _ ih h
theorem qq.any{w:W}{c:Nat->Nat}(C:qq w c)(g:Good w){o q:Nat}(hq:q∈row w o){a b:Nat}(ha:a<3)(hb:b<3)(ne:a≠b):qq w (λp=>if c p=c o then a else if c p=c q then b else 3-a-b):=by
 have z0:=C.lt o (aQ hq);have zq:=C.lt q (g.rng _ _ hq);have n0:=C.ne _ _ hq;refine⟨λp hp=>?_,λp r h=>?_⟩
 ·skip
  split
  ·exact ha
  ·split<;>omega
 ·have hp:=C.lt p (aQ h)
  have hr:=C.lt r (g.rng _ _ h);have n1:=C.ne _ _ h
  split<;>split<;>(try split)<;>(try split)<;>omega
def CC(w:W)(R:List Nat):Prop:=(∀p,p<w.length->p∉R->(row w p).length%2=0)->∃c,qq w c
theorem CC.RH{w:W}{a b:List Nat}(h:CC w (a++b)):CC w (b++a):=λev=>h λp hp n=>ev p hp λz=>n (List.perm_append_comm.mem_iff.mp z)
theorem FJ:CC [[1,2],[2,0],[0,1]] [0,1,2]:=λ_=>⟨λp=>p,λp hp=>hp,λp q h e=>by
 subst e
 have:p<3:=aQ h
 match p,this with
 |0,_=>revert h;decide
 |1,_=>revert h;decide
 |2,_=>revert h;decide⟩
theorem zg{w w':W}{R:List Nat}{f:Nat}(G:cJ w R)(T:Step w w' R f)(h:CC w R):CC w' (bW R f w.length):=λev=>by
 have F:=nX G T;have M:=lL G T;have g:=G.g;have fn:=T.fn;have f1:=T.f1;have tl:=T.l
 obtain⟨c,C⟩:=h λp hp n=>by
  have nk:∀k,k<R.length->p≠R.getD k 0:=λk hk e=>n (by rw[e];exact F.z k hk)
  have:=ev p (by omega) λz=>by
   rcases(M.mem p).mp z with e|e| ⟨i,_,hi,e⟩
   ·exact nk 0 (by omega) e
   ·omega
   ·exact nk i hi e
  rw[T.ro p (by omega) λk hk=>nk k (by omega)] at this
  exact this
 have Sr:∀k,k+1<f->c (R.getD (k+2) 0)=c (R.getD k 0):=λk hk=>by
  have hx:=F.z (k+1) (by omega)
  have xl:=F.zlt (k+1) (by omega)
  have e1:(row w (R.getD (k+1) 0)).getD 0 0=R.getD (k+2) 0:=by rw[(G.hd _ hx).2,bE G.nd (by omega)]
  obtain⟨e2,e3⟩:=G.sU hx (F.z k (by omega)) (bE G.nd (by omega))
  have odd:=ev (R.getD (k+1) 0) (by omega) λz=>by
   rcases(M.mem _).mp z with e|e| ⟨i,h1,hi,e⟩
   ·have:=F.inj _ _ (by omega) (by omega) e;omega
   ·omega
   ·have:=F.inj _ _ (by omega) hi e;omega
  rw[T.rk (k+1) (by omega) (by omega),dG,xg] at odd
  generalize hl:row w (R.getD (k+1) 0)=l at e1 e2 e3 odd;have nl:l.Nodup:=by rw[<-hl];exact g.nod _
  have a:=alt (c:=c) (l:=l) (C.lt _ xl) (λx hx=>by
   rw[<-hl] at hx;exact⟨C.lt x (g.rng _ _ hx),λe=>C.ne _ x hx e.symm⟩) (λi hi=>by
   have hm:=bw (l:=l) (i:=i) (by omega)
   have mI:l.getD i 0∈row w (R.getD (k+1) 0):=by rw[hl];exact hm
   have na:¬lA R (l.getD i 0) (R.getD (k+1) 0):=λz=>by
    have:=lT G.nd z.1 (F.z k (by omega)) (by rw[<-z.2,bE G.nd (by omega)])
    rw[<-e2] at this
    have:=getD_inj nl (by omega) (by omega) this
    omega
   have t:=Fu g mI (G.tri _ _ (g.sym _ _ mI) na).1;rw[hl,bE nl hi] at t;exact C.ne _ _ t) ((l.length-1) / 2) (by omega)
  rw[show 2*((l.length-1) / 2)=l.length-1 by omega,e2,e1] at a
  exact a.symm
 have two:∀k,k<=f->c (R.getD k 0)=c (R.getD 0 0)\/c (R.getD k 0)=c (R.getD 1 0):=λk=>by
  induction k using Nat.strongRecOn with
  |_ k ih=>
   intro hk
   match k with
   |0=>exact .inl rfl
   |1=>exact .inr rfl
   |k+2=>
    rw[Sr k (by omega)]
    exact ih k (by omega) (by omega)
 have c0:=C.lt _ (F.zlt 0 (by omega))
 have c1:=C.lt _ (F.zlt 1 (by omega))
 have c01:c (R.getD 0 0)≠c (R.getD 1 0):=by
  have:=(G.hd _ (F.z 0 (by omega))).1
  rw[bE G.nd (by omega)] at this
  exact C.ne _ _ this
 refine⟨λp=>if p=w.length then 3-c (R.getD 0 0)-c (R.getD 1 0) else c p,λp hp=>?_,λp q hq=>?_⟩
 ·skip
  split
  ·omega
  ·exact C.lt p (by omega)
 ·skip
  by_cases e:p=w.length
  ·subst e
   obtain⟨k,hk,rfl⟩:=(F.dv q).mp hq
   have:=F.zlt k (by omega)
   rw[if_pos rfl,if_neg (by omega)]
   rcases two k hk with z|z<;>omega
  ·rcases(F.dx p e q).mp hq with d| ⟨rfl,k,hk,rfl⟩
   ·have:=g.rng _ _ d
    rw[if_neg e,if_neg (by omega)]
    exact C.ne _ _ d
   ·rw[if_neg e,if_pos rfl]
    rcases two k hk with z|z<;>omega
structure j3 (w:W):Prop where
 g:Good w
 tri:pF w
 dg:f7 w+12=6*w.length
 n3:3<=w.length
 cc:(∀p,p<w.length->(row w p).length%2=0)->∃c,qq w c
theorem cJ.Vn{w:W}{R:List Nat}(G:cJ w R)(h:CC w R)(hd:f7 w+2*R.length+6=6*w.length)(l3:R.length=3):j3 w:=
 ⟨G.g,λd hd=>G.three l3 hd,by omega,by have:=G.RJ;omega,λev=>h λp hp _=>ev p hp⟩
theorem j3.RF{w F:W}{ns:List Nat}(h:j3 w)(pm:ns.Perm (List.range w.length))(N:ui w F λx=>ns.getD x 0):j3 F:=by
 have g:=h.g
 have ev:(∀p,p<F.length->(row F p).length%2=0)->∀p,p<w.length->(row w p).length%2=0:=λe p hp=>by
  have:=e _ (by rw[N.len];exact N.lt p hp)
  obtain⟨a,b,e1,e2⟩:=N.rows p hp;rw[e2,aI,dG,Nat.add_comm,<-dG,<-e1] at this;exact this
 refine⟨N.good g,λd hd=>?_,?_,by rw[N.len];exact h.n3,λe=>?_⟩
 ·obtain⟨x,y,Dk,rfl⟩:=N.all g hd
  have d1:=gm g Dk;have d2:=gm g d1;rw[N.Rj g Dk,N.Rj g (x:=(bA w (x,y)).1) (y:=(bA w (x,y)).2) d1,N.Rj g (x:=(bA w (bA w (x,y))).1) (y:=(bA w (bA w (x,y))).2) d2]
  have:=h.tri _ Dk
  rw[show bA w ((bA w (bA w (x,y))).1,(bA w (bA w (x,y))).2)=(x,y) from this]
 ·rw[Ic N.len pm λp hp=>by
   obtain⟨a,b,e1,e2⟩:=N.rows p hp;rw[e1,e2];exact(List.perm_append_comm (l₁:=b) (l₂:=a)).map _,N.len]
  exact h.dg
 ·obtain⟨c,C⟩:=h.cc (ev e)
  have inv:∀y,y<w.length->∃x,x<w.length/\ns.getD x 0=y:=N.onto;refine⟨λy=>if hy:y<w.length then c (inv y hy).choose else 0,λp hp=>?_,λp q hq=>?_⟩
  ·rw[N.len] at hp
   simp only[hp,dite_true];exact C.lt _ (inv p hp).choose_spec.1
  ·obtain⟨x,y,Dk,e⟩:=N.all g (d:=(p,q)) hq
   have e1:p=ns.getD x 0:=congrArg Prod.fst e;have e2:q=ns.getD y 0:=congrArg Prod.snd e;have hx:=aQ Dk;have hy:=g.rng _ _ Dk;have key:∀(z:Nat)(hz:z<w.length)(h':ns.getD z 0<w.length),(inv (ns.getD z 0) h').choose=z:=λz hz h'=>N.inj _ _ (inv _ h').choose_spec.1 hz (inv _ h').choose_spec.2;subst e1 e2;simp only[N.lt x hx,N.lt y hy,dite_true,key x hx,key y hy];exact C.ne _ _ Dk
def CA(r:List Nat)(x:Nat)(ys:List Nat):List Nat:=r.take (r.idxOf x+1)++ys++r.drop (r.idxOf x+1)
def iG:W:= [[1,2],[2,0],[0,1]]
def dF(w:W)(a b:Nat):Nat:=ar (row w b) a
def zK(w:W)(a b:Nat):W:=w.set a (CA (row w a) (dF w a b) [w.length+2,w.length])
def zL(w:W)(a b:Nat):W:=(zK w a b).set b (CA (row (zK w a b) b) a [w.length,w.length+1])
def Io(w:W)(a b:Nat):W:=(zL w a b).set (dF w a b) (CA (row (zL w a b) (dF w a b)) b [w.length+1,w.length+2])
def oE(w:W)(a b:Nat):W:=Io w a b++ [[b,a,w.length+2,w.length+1],[dF w a b,b,w.length,w.length+2],[a,dF w a b,w.length+1,w.length]]
def xW(w:W)(a b:Nat):W:=w.set (dF w a b) (CA (row w (dF w a b)) b [w.length+1,w.length])
def uB(w:W)(a b:Nat):W:=(xW w a b).set (dF w b a) (CA (row (xW w a b) (dF w b a)) a [w.length,w.length+1])
def uC(w:W)(a b:Nat):W:=(uB w a b).set a ((row (uB w a b) a).set ((row (uB w a b) a).idxOf b) w.length)
def Hd(w:W)(a b:Nat):W:=(uC w a b).set b ((row (uC w a b) b).set ((row (uC w a b) b).idxOf a) (w.length+1))
def lO(w:W)(a b:Nat):W:=Hd w a b++ [[dF w b a,a,dF w a b,w.length+1],[dF w a b,b,dF w b a,w.length]]
def Vi(F:W->Nat->Nat->W)(L:List (W×List Nat))(cs:W->List Nat->Nat->Nat->List Nat):List (W×List Nat):=L.flatMap λx=>(bf x.1).map λd=>(F x.1 d.1 d.2,cs x.1 x.2 d.1 d.2)
def F3:List (W×List Nat):=Vi oE [(iG,[0,1,2])] λw c a b=>c++ [c.getD (dF w a b) 0,c.getD a 0,c.getD b 0]
def Qi:List (W×List Nat):=Vi lO F3 λw c a b=>c++ [c.getD b 0,c.getD a 0]
def RE(w:W):Nat->List Nat->List Nat
 |0,S=>S
 |k+1,S=>RE w k (S++S.flatMap (row w))
theorem wA{w:W}:∀{k:Nat}{S:List Nat},(∀x∈S,Reach w 0 x)->∀x∈RE w k S,Reach w 0 x
 |0,_,h=>h
 |k+1,S,h=>wA (k:=k) λx hx=>by
  rcases fR.mp hx with hx|hx
  ·exact h x hx
  ·obtain⟨y,hy,hx⟩:=wW.mp hx
   exact .step (h y hy) hx
def Iv(x:W×List Nat):Bool:=
 ((List.range x.1.length).all λp=>((row x.1 p).all λq=>decide (q<x.1.length)&&decide (q≠p)&&decide (p∈row x.1 q)&&decide (x.2.getD p 0≠x.2.getD q 0)&&decide (bA x.1 (bA x.1 (bA x.1 (p,q)))=(p,q)))&&decide (row x.1 p).Nodup&&decide (p∈RE x.1 3 [0])&&decide (x.2.getD p 0<3))&&decide (f7 x.1+12=6*x.1.length)&&decide (3<=x.1.length)
theorem vz{x:W×List Nat}(h:Iv x=true):j3 x.1:=by
 unfold Iv at h;rw[iJ,iJ,jZ] at h;obtain⟨⟨h,hd⟩,hn⟩:=h;have hp:∀p,p<x.1.length->_:=λp hp=>h p (eJ.mpr hp);simp only[iJ,jZ,decide_eq_true_eq] at hp;have ht:∀p q,q∈row x.1 p->_:=λp q hq=>(hp p (aQ hq)).1.1.1 q hq;refine⟨⟨λp q hq=>(ht p q hq).1.1.1.1,λp hq=>(ht p p hq).1.1.1.2 rfl,λp=>?_,λp q hq=>(ht p q hq).1.1.2,λp gJ=>?_⟩,λd hd=>(ht d.1 d.2 hd).2,of_decide_eq_true hd,of_decide_eq_true hn,λ_=>⟨λp=>x.2.getD p 0,λp gJ=>(hp p gJ).2,λp q hq=>(ht p q hq).1.2⟩⟩
 ·by_cases c:p<x.1.length
  ·exact(hp p c).1.1.2
  ·rw[wB (by omega)];exact iL
 ·refine wA (k:=3) (S:= [0]) (λy hy=>?_) p (hp p gJ).1.2
  rw[iI.mp hy];exact .refl _
abbrev Hz(w:W)(a b:Nat):Prop:=(a<w.length/\b<w.length/\dF w a b<w.length/\w.length<=10)/\(a∈row w b/\dF w a b∈row w a/\a∈row (zK w a b) b/\b∈row (zL w a b) (dF w a b))/\(row w b).length<=20/\(row w a).length<=20/\(row (zK w a b) b).length<=20/\(row (zL w a b) (dF w a b)).length<=20
abbrev Hy(w:W)(a b:Nat):Prop:=(a<w.length/\b<w.length/\dF w a b<w.length/\dF w b a<w.length/\w.length<=10)/\(a∈row w b/\b∈row w a/\b∈row w (dF w a b)/\a∈row (xW w a b) (dF w b a)/\b∈row (uB w a b) a/\a∈row (uC w a b) b)/\(row w b).length<=20/\(row w a).length<=20/\(row w (dF w a b)).length<=20/\(row (xW w a b) (dF w b a)).length<=20/\(row (uB w a b) a).length<=20/\(row (uC w a b) b).length<=20
theorem GW:(bf iG).all (λd=>decide (Hz iG d.1 d.2))=true:=by decide+kernel
theorem yW:F3.all (λx=>decide (x.1.length=6)&&(bf x.1).all λd=>decide (Hy x.1 d.1 d.2))=true:=by decide+kernel
theorem Ju{a b:Nat}(h:(a,b)∈bf iG):∃c,(oE iG a b,c)∈F3:=⟨_,wW.mpr ⟨(iG,[0,1,2]),iI.mpr rfl,dE.mpr ⟨(a,b),h,rfl⟩⟩⟩
theorem Jv{w:W}{c:List Nat}{a b:Nat}(hc:(w,c)∈F3)(h:(a,b)∈bf w):∃c,(lO w a b,c)∈Qi:=⟨_,wW.mpr ⟨(w,c),hc,dE.mpr ⟨(a,b),h,rfl⟩⟩⟩
theorem LG:((iG,[0,1,2])::(F3++Qi)).all Iv=true:=by decide+kernel
theorem pF.rnd{w:W}(T:pF w)(g:Good w){d:Nat×Nat}{r:List (Nat×Nat)}(h:j4 w d r)(hd:bo w d):r= [d,bA w d,bA w (bA w d)]:=by
 obtain⟨k,k0,k1,k2,rfl⟩:=h;have t:fO w 3 d=d:=T d hd;have n1:bA w d≠d:=λz=>A0 g hd (congrArg Prod.fst z).symm;have n2:bA w (bA w d)≠d:=λz=>n1 (by have t':bA w (bA w (bA w d))=d:=t;rw[z] at t';exact t')
 have:k=3:=by
  apply Classical.byContradiction;intro z
  rcases Nat.lt_trichotomy k 3 with c|c|c
  ·match k,k0,c with
   |1,_,_=>exact n1 k1
   |2,_,_=>exact n2 k1
  ·exact z c
  ·exact k2 3 (by omega) c t
 subst this;rfl
theorem pF.back{w:W}(T:pF w){p q:Nat}(hd:bo w (p,q)):bA w (q,ar (row w q) p)=(ar (row w q) p,p):=by
 have e:=T _ hd;have e1:ar (row w (ar (row w q) p)) q=p:=congrArg Prod.fst e;show(_,ar (row w (ar (row w q) p)) q)=_;rw[e1]
theorem pF.pts{w:W}(T:pF w)(g:Good w){d e:Nat×Nat}{r:List (Nat×Nat)}(h:j4 w d r)(hd:bo w d)(he:e∈r)(z:Nat):z∈r.map (·.1)↔z=e.1\/z=e.2\/z=ar (row w e.2) e.1:=by
 have er:=T.rnd g h hd;subst er;obtain⟨p,q⟩:=d;have e1:bA w (p,q)=(q,ar (row w q) p):=rfl;have e2:=T.back hd;have e3:ar (row w (ar (row w q) p)) q=p:=(congrArg Prod.snd e2)
 have e4:ar (row w p) (ar (row w q) p)=q:=by
  have:=T _ hd
  rw[e1,e2] at this;exact congrArg Prod.snd this
 rw[e1,e2] at he;simp only[cD,iK,or_false] at he;rw[e1,e2];show z∈ [p,q,ar (row w q) p]↔_;simp only[cD,iK,or_false]
 rcases he with rfl|rfl|rfl
 ·exact Iff.rfl
 ·show _↔z=q\/z=ar (row w q) p\/z=ar (row w (ar (row w q) p)) q
  rw[e3];exact⟨λh=>by rcases h with h|h|h<;>simp[h],λh=>by rcases h with h|h|h<;>simp[h]⟩
 ·show _↔z=ar (row w q) p\/z=p\/z=ar (row w p) (ar (row w q) p)
  rw[e4];exact⟨λh=>by rcases h with h|h|h<;>simp[h],λh=>by rcases h with h|h|h<;>simp[h]⟩
theorem pF.three{w:W}(T:pF w)(g:Good w){rs:List (List (Nat×Nat))}(R:bM w rs):∀r∈rs,r.length=3:=λr hr=>by
 obtain⟨d,h,hd,_⟩:=R.rnd r hr;rw[T.rnd g h hd];rfl
theorem wK{α:Type}:∀{rs:List (List α)},(∀r∈rs,r.length=3)->rs.flatten.length=3*rs.length
 | [],_=>rfl
 |r::rs,h=>by
  rw[pB,dG,h r (cw ..),wK λx hx=>h x (b8 _ hx),dD];omega
theorem j3.lands{w:W}(F:j3 w){rs:List (List (Nat×Nat))}(R:bM w rs):3*rs.length=f7 w:=by
 rw[<-wK (F.tri.three F.g R),R.perm.length_eq,ja]
abbrev Os:=List (Option Nat)
def dB(os:Os)(p:Nat):Option Nat:=os.getD p none
def cF(os:Os)(l:List Nat):List Nat:=l.filter λp=>(dB os p).isNone
def bO(os:Os)(l:List Nat):Os:=
 match cF os l with
 | [x]=>os.set x (some (3-((l.filter λp=>decide (p≠x)).map λp=>(dB os p).getD 0).sum))
 |_=>os
def xP(os:Os):Nat:=(os.filter Option.isNone).length
theorem E7:∀{a b:Os},a.length=b.length->(∀i:Nat,b[i]? =some none->a[i]? =some none)->xP b<=xP a
 | [],[],_,_=>br _
 |x::a,y::b,h,m=>by
  have ih:=E7 (a:=a) (b:=b) (by simpa using h) λi hi=>m (i+1) hi
  have:=m 0
  unfold xP at ih ⊢;cases x<;>cases y<;>simp at this ih ⊢ <;>omega
theorem E8:∀{a b:Os}{i:Nat},a.length=b.length->(∀i:Nat,b[i]? =some none->a[i]? =some none)->a[i]? =some none->b[i]? ≠some none->xP b<xP a
 | [],[],i,_,_,h,_=>by simp at h
 |x::a,y::b,0,h,m,h1,h2=>by
  have:=E7 (a:=a) (b:=b) (by simpa using h) λi hi=>m (i+1) hi
  unfold xP at this ⊢;cases x<;>cases y<;>simp at h1 h2 this ⊢ <;>omega
 |x::a,y::b,i+1,h,m,h1,h2=>by
  have ih:=E8 (a:=a) (b:=b) (i:=i) (by simpa using h) (λi hi=>m (i+1) hi) h1 h2
  have:=m 0
  unfold xP at ih ⊢;cases x<;>cases y<;>simp at this ih ⊢ <;>omega
structure DyC (w:W) (c:Nat->Nat) (os:Os):Prop where
 l:os.length=w.length
 e:∀p k,os[p]? =some (some k)->k=c p
theorem get_none{os:Os}{p:Nat}(h:p<os.length):dB os p=none↔os[p]? =some none:=by
 unfold dB;rw[bb,bL h];cases os[p]<;>simp
theorem DyC.get{w:W}{c:Nat->Nat}{os:Os}(h:DyC w c os){p:Nat}(hp:p<w.length)(n:dB os p≠none):dB os p=some (c p):=by
 have gJ:p<os.length:=by rw[h.l];exact hp
 unfold dB at n ⊢;rw[bb,bL gJ] at n ⊢;cases e:os[p] with
 |none=>rw[e] at n;exact absurd rfl n
 |some k=>rw[h.e p k (by rw[bL gJ,e])];rfl
theorem JE{os:Os}{y x k:Nat}(h:y<os.length):dB (os.set y (some k)) x=if y=x then some k else dB os x:=by
 unfold dB;rw[bb,gM]
 by_cases e:y=x
 ·subst e;rw[if_pos rfl,if_pos h,if_pos rfl];rfl
 ·rw[if_neg e,if_neg e,bb]
theorem DyC.set{w:W}{c:Nat->Nat}{os:Os}(h:DyC w c os){y k:Nat}(hk:c y=k):DyC w c (os.set y (some k)):=⟨by rw[cM];exact h.l,λp j hj=>by
 rw[gM] at hj
 by_cases e:y=p
 ·subst e
  rw[if_pos rfl] at hj
  split at hj
  ·cases hj;exact hk.symm
  ·cases hj
 ·rw[if_neg e] at hj;exact h.e p j hj⟩
theorem oH{a b:Os}(hl:b.length=a.length)(h:∀i:Nat,b[i]? =some none->a[i]? =some none){x:Nat}(hx:x<a.length)(n:dB a x≠none):dB b x≠none:=λz=>n ((get_none hx).mpr (h x ((get_none (by rw[hl];exact hx)).mp z)))
theorem DyC.all{w:W}{c:Nat->Nat}{os:Os}(h:DyC w c os)(n:none∉os):os=(List.range w.length).map λp=>some (c p):=by
 refine xj λi=>?_
 by_cases hi:i<w.length
 ·have iP:i<os.length:=by rw[h.l];exact hi
  rw[cL,ud hi,bL iP];cases e:os[i] with
  |none=>exact absurd (by rw[<-e];exact kZ iP) n
  |some k=>rw[h.e i k (by rw[bL iP,e])];rfl
 ·rw[eQ (by rw[h.l];omega),eQ (by rw[aI,kX];omega)]
theorem Hm{w:W}{c:Nat->Nat}(C:qq w c)(g:Good w){os:Os}(h:DyC w c os){p q s:Nat}(h1:q∈row w p)(h2:s∈row w q)(h3:p∈row w s):
  DyC w c (bO os [p,q,s])/\(∀i:Nat,(bO os [p,q,s])[i]? =some none->os[i]? =some none)/\∀x∈ [p,q,s],(∀y∈ [p,q,s],y≠x->dB os y≠none)->dB (bO os [p,q,s]) x≠none:=by
 have pl:=aQ h1;have ql:=aQ h2;have sl:=aQ h3;have n1:p≠q:=λz=>g.irr p (by rw[<-z] at h1;exact h1)
 have n2:q≠s:=λz=>g.irr q (by rw[<-z] at h2;exact h2)
 have n3:s≠p:=λz=>g.irr s (by rw[<-z] at h3;exact h3)
 have cp:=C.lt p pl;have cq:=C.lt q ql;have cs:=C.lt s sl;have e1:=C.ne _ _ h1;have e2:=C.ne _ _ h2;have e3:=C.ne _ _ h3
 have put:∀x,x<w.length->dB os x=none->∀k,k=c x->DyC w c (os.set x (some k))/\(∀i:Nat,(os.set x (some k))[i]? =some none->os[i]? =some none)/\dB (os.set x (some k)) x≠none:=λx hx hb k hk=>by
  have qK:x<os.length:=by rw[h.l];exact hx
  refine⟨⟨by rw[cM];exact h.l,λi j hi=>?_⟩,λi hi=>?_,?_⟩
  ·rw[gM] at hi
   by_cases z:x=i
   ·subst z
    rw[if_pos rfl,if_pos qK] at hi;cases hi;exact hk
   ·rw[if_neg z] at hi;exact h.e i j hi
  ·rw[gM] at hi
   by_cases z:x=i
   ·subst z
    rw[if_pos rfl,if_pos qK] at hi;cases hi
   ·rw[if_neg z] at hi;exact hi
  ·unfold dB
   rw[bb,gM,if_pos rfl,if_pos qK];simp
 have keep:(DyC w c os/\(∀i:Nat,os[i]? =some none->os[i]? =some none)):=⟨h,λ_ z=>z⟩;cases bp:dB os p with
 |none=>
  cases bq:dB os q with
  |none=>
   have e:bO os [p,q,s]=os:=by
    unfold bO cF;cases bs:dB os s<;>simp[jY,bp,bq,bs]
   rw[e];refine⟨h,λ_ z=>z,λx hx hy=>?_⟩;simp at hx
   rcases hx with rfl|rfl|rfl
   ·exact absurd bq (hy q (by simp) n1.symm)
   ·exact absurd bp (hy p (by simp) n1)
   ·exact absurd bp (hy p (by simp) n3.symm)
  |some kq=>
   cases bs:dB os s with
   |none=>
    have e:bO os [p,q,s]=os:=by
     unfold bO cF;simp[jY,bp,bq,bs]
    rw[e];refine⟨h,λ_ z=>z,λx hx hy=>?_⟩;simp at hx
    rcases hx with rfl|rfl|rfl
    ·exact absurd bs (hy s (by simp) n3)
    ·exact absurd bp (hy p (by simp) n1)
    ·exact absurd bp (hy p (by simp) n3.symm)
   |some ks=>
    have Ra:=h.get ql (by rw[bq];simp)
    have Rb:=h.get sl (by rw[bs];simp)
    have e:bO os [p,q,s]=os.set p (some (3-(c q+c s))):=by
     unfold bO cF;simp[jY,bp,Ra,Rb,n1.symm,n3]
    obtain⟨a,b,d⟩:=put p pl bp _ (show 3-(c q+c s)=c p by omega)
    rw[e];refine⟨a,b,λx hx hy=>?_⟩;simp at hx
    rcases hx with rfl|rfl|rfl
    ·exact d
    ·exact absurd bp (hy p (by simp) n1)
    ·exact absurd bp (hy p (by simp) n3.symm)
 |some kp=>
  have W7:=h.get pl (by rw[bp];simp)
  cases bq:dB os q with
  |none=>
   cases bs:dB os s with
   |none=>
    have e:bO os [p,q,s]=os:=by
     unfold bO cF;simp[jY,bp,bq,bs]
    rw[e];refine⟨h,λ_ z=>z,λx hx hy=>?_⟩;simp at hx
    rcases hx with rfl|rfl|rfl
    ·exact absurd bs (hy s (by simp) n3)
    ·exact absurd bs (hy s (by simp) n2.symm)
    ·exact absurd bq (hy q (by simp) n2)
   |some ks=>
    have Rb:=h.get sl (by rw[bs];simp)
    have e:bO os [p,q,s]=os.set q (some (3-(c p+c s))):=by
     unfold bO cF;simp[jY,bq,W7,Rb,n1,n2.symm]
    obtain⟨a,b,d⟩:=put q ql bq _ (show 3-(c p+c s)=c q by omega)
    rw[e];refine⟨a,b,λx hx hy=>?_⟩;simp at hx
    rcases hx with rfl|rfl|rfl
    ·exact absurd bq (hy q (by simp) n1.symm)
    ·exact d
    ·exact absurd bq (hy q (by simp) n2)
  |some kq=>
   have Ra:=h.get ql (by rw[bq];simp)
   cases bs:dB os s with
   |none=>
    have e:bO os [p,q,s]=os.set s (some (3-(c p+c q))):=by
     unfold bO cF;simp[jY,bs,W7,Ra,n3.symm,n2]
    obtain⟨a,b,d⟩:=put s sl bs _ (show 3-(c p+c q)=c s by omega)
    rw[e];refine⟨a,b,λx hx hy=>?_⟩;simp at hx
    rcases hx with rfl|rfl|rfl
    ·exact absurd bs (hy s (by simp) n3)
    ·exact absurd bs (hy s (by simp) n2.symm)
    ·exact d
   |some ks=>
    have e:bO os [p,q,s]=os:=by
     unfold bO cF;simp[jY,bp,bq,bs]
    rw[e];refine⟨h,λ_ z=>z,λx hx hy=>?_⟩;simp at hx
    rcases hx with rfl|rfl|rfl
    ·rw[bp];simp
    ·rw[bq];simp
    ·rw[bs];simp
theorem Em{w:W}{c:Nat->Nat}(C:qq w c)(g:Good w){os:Os}(h:DyC w c os){p q s:Nat}(h1:q∈row w p)(h2:s∈row w q)(h3:p∈row w s)(x:Nat)(hx:cF os [p,q,s]= [x]):(([p,q,s].filter λp=>decide (p≠x)).map λp=>(dB os p).getD 0).sum<=3:=by
 have pl:=aQ h1;have ql:=aQ h2;have sl:=aQ h3;have n1:p≠q:=λz=>g.irr p (by rw[<-z] at h1;exact h1)
 have n2:q≠s:=λz=>g.irr q (by rw[<-z] at h2;exact h2)
 have n3:s≠p:=λz=>g.irr s (by rw[<-z] at h3;exact h3)
 have cp:=C.lt p pl;have cq:=C.lt q ql;have cs:=C.lt s sl;have e1:=C.ne _ _ h1;have e2:=C.ne _ _ h2;have e3:=C.ne _ _ h3
 have dy:∀y∈ [p,q,s],y≠x->dB os y≠none:=λy hy ne z=>by
  have:y∈cF os [p,q,s]:=mF.mpr ⟨hy,by rw[z];rfl⟩
  rw[hx] at this;exact ne (iI.mp this)
 have xm:x∈ [p,q,s]:=by
  have:x∈cF os [p,q,s]:=by rw[hx];exact iI.mpr rfl
  exact(mF.mp this).1
 simp only[cD,iK,or_false] at xm
 rcases xm with rfl|rfl|rfl
 ·have a:=h.get ql (dy q (by simp) n1.symm)
  have b:=h.get sl (dy s (by simp) n3)
  simp[jY,n1.symm,n3,a,b];omega
 ·have a:=h.get pl (dy p (by simp) n1)
  have b:=h.get sl (dy s (by simp) n2.symm)
  simp[jY,n1,n2.symm,a,b];omega
 ·have a:=h.get pl (dy p (by simp) n3.symm)
  have b:=h.get ql (dy q (by simp) n2)
  simp[jY,n3.symm,n2,a,b];omega
theorem pF.land{w:W}(T:pF w)(g:Good w){rs:List (List (Nat×Nat))}(R:bM w rs){l:List Nat}(h:l∈eE rs):∃p q s,l= [p,q,s]/\q∈row w p/\s∈row w q/\p∈row w s:=by
 obtain⟨r,hr,rfl⟩:=dE.mp h;obtain⟨⟨p,q⟩,h1,hd,_⟩:=R.rnd r hr;have er:=T.rnd g h1 hd;have e2:=T.back hd;have d2:=gm g hd;have d3:=gm g d2;have e1:bA w (p,q)=(q,ar (row w q) p):=rfl;rw[e1] at d2 d3;rw[e2] at d3;refine⟨p,q,ar (row w q) p,?_,hd,d2,d3⟩;rw[er,e1,e2];rfl
theorem more{w:W}(T:pF w)(g:Good w){rs:List (List (Nat×Nat))}(R:bM w rs){D:Nat->Prop}{a q:Nat}(hq:q∈row w a)(d0:D a)(dq:D q){b:Nat}(hb:b<w.length)(nb:¬D b):
  ∃r∈rs,∃x∈r.map (·.1),¬D x/\∀y∈r.map (·.1),y≠x->D y:=by
 apply Classical.byContradiction;intro no
 have full:∀p q,q∈row w p->D p->D q->∀x∈row w p,D x:=λp q hq dp dq=>HS (g.nod p) hq dq λx hx dx=>by
  apply Classical.byContradiction;intro ny;have hd:bo w (x,p):=g.sym _ _ hx;obtain⟨r,hr,he⟩:=xk.mp (R.perm.mem_iff.mpr (b6.mpr hd));obtain⟨d,h1,h2,_⟩:=R.rnd r hr;have pt:=T.pts g h1 h2 he;refine no ⟨r,hr,ar (row w p) x,(pt _).mpr (.inr (.inr rfl)),ny,λy hy ne=>?_⟩
  rcases(pt y).mp hy with z|z|z
  ·rw[z];exact dx
  ·rw[z];exact dp
  ·exact absurd z ne
 have:=zD g (aQ hq) (S:=λp=>D p/\∀x∈row w p,D x) ⟨d0,full a q hq d0 dq⟩ λp q h hq=>⟨h.2 q hq,full q p (g.sym _ _ hq) (h.2 q hq) h.1⟩
 exact nb (this b hb).1
end Wb
set_option maxHeartbeats 4000000
namespace lg
open PySem L2 Wb
variable {P:Program} {w:World} {mg:Str->Option Value} {base:Heap} {Z:DC} (T:Txt Z mg)
open Wy
theorem gU(a b:Int)(h:0<b):0<=a%b/\a%b<b:=⟨Int.emod_nonneg _ (by omega),Int.emod_lt_of_pos _ h⟩
theorem xE{i j:Int}{P:D->Prop}{ρ:DN}(h:P (.bl (decide (i=j)))):dC (.int j) ρ (λb=>HU (.int i) b P):=AX h
theorem dH(w:W)(i:Nat)(r:List Nat):(w.map av).set i (av r)=(w.set i r).map av:=by rw[xp]
theorem fY{α:Type}(l:List α)(k:Nat)(h:k<=l.length):cutD l (some (k:Int)) none=l.drop k:=by
 unfold cutD
 have e1:HT.bD l.length 0 (some (k:Int))=k:=by
  simp only[HT.bD]
  split<;>omega
 have e2:HT.bD l.length l.length none=l.length:=rfl;rw[e1,e2];exact Fz (by simp)
theorem ck{w:W}{p:Nat}(h:p<w.length):gv (w.map av) (p:Int)=some (av (row w p)):=bC (kU h)
theorem jo{ns:List Nat}{p:Nat}(h:p<ns.length):gv (ns.map ag) (p:Int)=some (ag (ns.getD p 0)):=bC (by rw[cL,bb,bL h];rfl)
theorem yz{g:fi}{tb:cx}{E:fJ}{n:Nat}{ρ:DN}(I:Nat->DN->Prop)(h0:I 0 ρ)(hs:∀(j:Nat)(ρ:DN),j<n->I j ρ->∀A:DN->Prop,(∀ρ,I (j+1) ρ->A ρ)->g (ag j) ρ λbK=>tb {nx:=A,ct:=A,bk:=E.nx,rt:=E.rt,xc:=E.xc} bK)
  (he:∀ρ,I n ρ->E.nx ρ):lY g tb E (dk 0 n) ρ:=Bc I h0 (λj ρ hj h A hA=>by
 have:=hs j ρ hj h A hA
 unfold ag at this;rw[Int.zero_add];exact this) he
theorem Gu(r:List Nat)(i x:Nat):ins (r.map ag) i (ag x)=(ins r i x).map ag:=by
 unfold ins;simp[r9,sg]
def zv(n:Nat)(ns:List Nat):Prop:=ns.length=n/\ns.Nodup/\∀x∈ns,x<n
theorem vV{n:Nat}{ns:List Nat}(N:zv n ns){x:Nat}(h:x<n):x∈ns:=by
 apply Classical.byContradiction;intro hx
 have:(x::ns).length<=(List.range n).length:=bg (eI.mpr ⟨hx,N.2.1⟩) λy hy=>by
  rcases cD.mp hy with rfl|hy
  ·exact eJ.mpr h
  ·exact eJ.mpr (N.2.2 y hy)
 rw[kX,dD,N.1] at this;omega
theorem vY{f:DN->Prop}{aD:DN}(ρ:DN)(e:aD=ρ)(h:f ρ):f aD:=by rw[e];exact h
theorem Ab{x:Nat}:∀(ns:List Nat)(m:Nat),m<ns.idxOf x->ns[m]? ≠some x
 | [],m,h=>by simp at h
 |a::ns,m,h=>by
  rw[List.idxOf_cons] at h
  by_cases e:(a==x)=true
  ·rw[e] at h;simp at h
  ·rw[Ct.mpr e] at h
   cases m with
   |zero=>intro z;simp at z;exact e (by simp[z])
   |succ m=>rw[xf];exact Ab ns m (by simpa using h)
theorem Dm{ns:List Nat}{x:Nat}{P:D->Prop}(h:x∈ns)(q:P (ag (ns.idxOf x))):df (ag x)=true/\(ns.map ag).all df=true/\∃(j:Nat)(z:D),(ns.map ag)[j]? =some z/\fN z (ag x)=true/\(∀(m:Nat) z,m<j->(ns.map ag)[m]? =some z->fN z (ag x)=false)/\P (.int (j:Nat)):=by
 have hl:=xa.mpr h;have e:ns[ns.idxOf x]? =some x:=by rw[bL hl];exact congrArg some (AA hl)
 refine⟨rfl,bQ _,ns.idxOf x,ag x,by rw[cL,e];rfl,by simp[fN,ag],λm z hm hz=>?_,q⟩
 obtain⟨y,hy,rfl⟩:=bZ hz
 have:y≠x:=by
  rintro rfl;exact Ab _ _ hm hy
 have:¬((y:Int)=(x:Int)):=by omega
 simpa [fN,ag] using this
theorem bx{ns:List Nat}{x:Nat}(h:x∈ns):(ns.map ag)[ns.idxOf x]? =some (ag x)/\fN (ag x) (ag x)=true/\∀(m:Nat) z,m<ns.idxOf x->(ns.map ag)[m]? =some z->fN z (ag x)=false:=by
 have:=Dm (P:=λd=>d=ag (ns.idxOf x)) h rfl
 obtain⟨_,_,j,z,h1,h2,h3,h4⟩:=this;have hl:=xa.mpr h;have e:ns[ns.idxOf x]? =some x:=by rw[bL hl];exact congrArg some (AA hl)
 refine⟨by rw[cL,e];rfl,by simp[fN,ag],λm z hm hz=>?_⟩
 obtain⟨y,hy,rfl⟩:=bZ hz
 have:y≠x:=by
  rintro rfl;exact Ab _ _ hm hy
 have:¬((y:Int)=(x:Int)):=by omega
 simpa [fN,ag] using this
theorem Eb(n:Nat):dk 0 n=(List.range n).map λ(x:Nat)=>ag x:=by unfold dk ag;simp
theorem GI{i j:Int}{P:D->Prop}{ρ:DN}(h:P (.bl (!decide (i=j)))):dC (.int j) ρ (λb=>CL (.int i) b P):=qv h
variable {P:Program} {w:World} {mg:Str->Option Value} {base:Heap} {Z:DC} (T:Txt Z mg)
def p5(k:Nat×Nat):PyData:= .tuple [nD k.1,nD k.2]
theorem Kg(k:Nat×Nat):(pairD k).py=some (p5 k):=by
 unfold pairD;rw[D.py,iw,iw,iw];rfl
theorem yp(a b:Nat×Nat):PyData.eqv (p5 a) (p5 b)=true↔a=b:=by
 unfold p5 nD;simp[PyData.eqv,PyData.eqvAll]
 constructor
 ·rintro⟨h1,h2⟩;exact Prod.ext (by omega) (by omega)
 ·rintro rfl;exact⟨rfl,rfl⟩
variable {P:Program} {w:World} {mg:Str->Option Value} {base:Heap} {Z:DC} (T:Txt Z mg)
def zz(d:Nat×Nat):Int×Int:=(d.1,d.2)
theorem Nv{a b:Nat×Nat}(h:zz a=zz b):a=b:=Prod.ext (by have:=(Prod.mk.inj h).1;omega) (by have:=(Prod.mk.inj h).2;omega)
theorem FA{d:Nat×Nat}{l:List (Nat×Nat)}:zz d∈l.map zz↔d∈l:=by
 rw[dE];exact⟨λ⟨a,ha,e⟩=>by rw[<-Nv e];exact ha,λh=>⟨d,h,rfl⟩⟩
def Nf:bP:=λds P=>∃(w:W),ds= [.fk w]/\Good w/\w.length<=14/\f7 w<64/\∀ts:List (Nat×Nat),ts.Perm (iS (row w) w.length)->ts.Pairwise lexLe->P (.lst (ts.map pairD))
theorem OH{g:fi}{gh:iM}{g1:fi}{dP:dJ}{te:aY}{α β γ:Type}(I:DN->Prop)(J:α->DN->Prop)(enc:α->D)(f:α->List β)(ET:β->D)(p:α->β->Bool)(k:α->β->γ)(mV:γ->D)(JI:∀y ρ,J y ρ->I ρ):∀(ys:List α)(aD:DN)(acc:List γ)(P:List D->Prop),
  (∀y∈ys,∀aD,I aD->∀(Y:DN->List D->Prop),(∀bK,J y bK->Y bK ((f y).map ET))->g (enc y) aD λbK=>gh bK (Y bK))->
  (∀y∈ys,∀b∈f y,∀aD,J y aD->∀(Y:DN->D->Prop)(Nn:DN->Prop),(∀bK,J y bK->p y b=true->Y bK (mV (k y b)))->(∀bK,J y bK->p y b=false->Nn bK)->g1 (ET b) aD λbK=>dP bK λc=>if c=true then te bK (Y bK) else Nn bK)->
  I aD->acc.length+(ys.flatMap λy=>((f y).filter (p y)).map (k y)).length<=sizeLine->(∀y∈ys,acc.length+(ys.flatMap λy=>((f y).filter (p y)).map (k y)).length+(f y).length<=sizeLine)->P ((acc++ys.flatMap λy=>((f y).filter (p y)).map (k y)).map mV)->oU g tN gh g1 dP te (ys.map enc) aD (acc.map mV) P
 | [],aD,acc,P,_,_,hI,_,_,h=>by
  show P (acc.map mV);simpa using h
 |y::ys,aD,acc,P,h1,h2,hI,hz,hy,h=>by
  have hy0:=hy y (cw ..);rw[zt,dG] at hz hy0;refine h1 y (cw ..) aD hI (λbK es=>lcW g1 dP te es bK (acc.map mV) λfm u6=>oU g tN gh g1 dP te (ys.map enc) fm u6 P) λbK hJ1=>?_;refine jK (J y) ET (p y) (λb=>mV (k y b)) (f y) bK (acc.map mV) _ (λb hb fm Qv Y Nn hY hN=>?_) hJ1 (by rw[aI];omega) λfm Qv=>?_
  ·exact h2 y (cw ..) b hb fm Qv Y Nn hY hN
  ·have e:acc.map mV++((f y).filter (p y)).map (λb=>mV (k y b))=(acc++((f y).filter (p y)).map (k y)).map mV:=by rw[fc,dX];rfl
   rw[e];refine OH I J enc f ET p k mV JI ys fm (acc++((f y).filter (p y)).map (k y)) P (λz hz=>h1 z (b8 _ hz)) (λz hz=>h2 z (b8 _ hz)) (JI y fm Qv) (by rw[dG];omega) (λz hz=>?_) ?_
   ·have:=hy z (b8 _ hz)
    rw[zt,dG] at this;rw[dG];omega
   ·rw[zt] at h
    rw[xi];exact h
theorem lH:FnOk P w Z.K mg base bB 1 T.m_ties.f T.m_ties.fd ["self"] (aF Z Nf):=by
 have nd:=rK.nd;refine aP T.m_ties.F rK [0] (by decide) (λds R h=>by obtain⟨_,rfl,_⟩:=h;rfl) (λbc A outer s H E ds R hr h=>?_)
 have hu:=hr.units;refine⟨_,(ai (aE (aA (vk hu) rfl T.B.sorted pH (ab (Lw (NC:= ["p","row","q"]) (src:= [none,none,none]) rfl (lB (aq jN)) trivial (eC rfl T.B.enumerate (ab (qw T.W (aa 0)) ae)) (λ_ _ _=>(uL 2 rfl (gk (bF 0 (show(["p","row","q"]:List Str).Nodup from by decide+kernel)) (gk (bF 1 (show(["p","row","q"]:List Str).Nodup from by decide+kernel)) qz)))) (λ_ _ _=>cZ) (λ_ _ _=>(bG (aa 1))) (λ_ _ _=>(bF 2 (show(["p","row","q"]:List Str).Nodup from by decide+kernel))) (λ_ _ _=>(mU (aK Ae (aa 0) (aa 2) (aR _)))) (λ_ _ _=>(cG (ab (aa 0) (ab (aa 2) ae))))) ae)))),?_⟩
 obtain⟨w',rfl,g,gb,AV,q⟩:=h;have th:=wM g
 have ee:fv (w'.map av)=(List.range w'.length).map λ(j:Nat)=>D.tup [.int (j:Int),av (row w' j)]:=by
  refine xj λj=>?_;rw[cL]
  by_cases lt:j<w'.length
  ·rw[ud lt]
   cases e:(fv (w'.map av))[j]? with
   |none=>
    have:=List.getElem?_eq_none_iff.mp e
    rw[gR,aI] at this;omega
   |some d=>rw[(wR e).2];rfl
  ·rw[eQ (by rw[gR,aI];omega),eQ (by rw[kX];omega)];rfl
 have tb:((List.range w'.length).flatMap λp=>((row w' p).filter λq=>decide (p<q)).map λq=>(p,q))=iS (row w') w'.length:=rfl
 have fl:∀n,n<=w'.length->(iS (row w') n).length<=n*14:=λn=>by
  induction n with
  |zero=>intro _;exact br _
  |succ n ih=>
   intro h
   have:=ih (by omega)
   have h2:=e9 g n;have h3:=List.length_filter_le (λq=>decide (n<q)) (row w' n);unfold iS at this ⊢;rw[List.range_succ,List.flatMap_append,dG];simp only[zt,List.flatMap_nil,pD,aI];omega
 have fl0:=fl w'.length (br _);refine⟨_,rfl,w',rfl,?_⟩;refine(?_:oU _ _ _ _ _ _ (fv (w'.map av)) _ _ _);rw[ee];refine OH (λρ=>∃o0 o1 o2,ρ= [o0,o1,o2]) (λp ρ=>∃o2,ρ= [some (ag p),some (av (row w' p)),o2]) _ (λp=>row w' p) ag (λp q=>decide (p<q)) (λp q=>(p,q)) pairD (λy ρ ⟨o2,e⟩=>⟨_,_,_,e⟩) (List.range w'.length) _ [] _ (λp hp aD hI Y hY=>?_) (λp hp b hb aD hI Y Nn hY hN=>?_) ⟨none,none,none,rfl⟩ ?_ (λp hp=>?_) ?_
 ·obtain⟨o0,o1,o2,rfl⟩:=hI
  exact⟨rfl,rfl,_,rfl,hY _ ⟨_,rfl⟩⟩
 ·obtain⟨o2,rfl⟩:=hI
  refine⟨_,rfl,_,rfl,_,rfl,?_⟩;refine(?_:if decide ((p:Int)<(b:Int))=true then _ else _);rw[show decide ((p:Int)<(b:Int))=decide (p<b) from decide_eq_decide.mpr (by omega)]
  exact bN (λe=>⟨_,rfl,_,rfl,by show 2<=sizeLine;decide,hY _ ⟨_,rfl⟩ e⟩) (λe=>hN _ ⟨_,rfl⟩ e)
 ·rw[tb,xn,Nat.zero_add];exact small (by omega)
 ·have:=e9 g p
  rw[tb,xn,Nat.zero_add];exact small (by omega)
 ·rw[tb,ue]
  exact⟨_,rfl,by omega,q⟩
def Hf:bP:=λds P=>∃(w:W)(p q:Nat),ds= [.fk w,ag p,ag q]/\Good w/\q∈row w p/\P (ag (ar (row w p) q))
theorem nj:FnOk P w Z.K mg base bB 1 T.m_behind.f T.m_behind.fd ["self","p","q"] (aF Z Hf):=by
 have nd:=nF.nd;refine aP T.m_behind.F nF [0,0,0,0] (by decide) (λds R h=>by obtain⟨_,_,_,rfl,_⟩:=h;rfl) (λbc A outer s H E ds R hr h=>?_)
 have hu:=hr.units
 refine⟨_,(af (aH false 3 nd (aJ (qw T.W (aa 0)) (aa 1)))
   (ai (aE (aJ (aa 3) (az cv (az ba (kC (aa 3) (aa 2)) ao) (aA aX rfl T.B.len aW (ab (aa 3) ae))))))),?_⟩
 obtain⟨w',p,q',rfl,g,hq,q⟩:=h;have hp:=aQ hq;have rl:=e9 g p;have lr:((row w' p).map ag).length=(row w' p).length:=aI _;have pos:0<(row w' p).length:=zo hq;have e0:(0:Int)<(((row w' p).map ag).length:Int):=by rw[lr];omega
 refine⟨_,rfl,w',rfl,_,rfl,_,ck hp,trivial,?_⟩;refine⟨_,rfl,_,rfl,_,rfl,_,rfl,rfl,bQ _,_,_,(bx hq).1,(bx hq).2.1,(bx hq).2.2,?_⟩;refine⟨_,rfl,e0,?_⟩;have em:(((row w' p).idxOf q':Nat):Int)+1=(((row w' p).idxOf q'+1:Nat):Int):=by omega
 have et:((((row w' p).idxOf q':Nat):Int)+1)%(((row w' p).map ag).length:Int)=((((row w' p).idxOf q'+1)%(row w' p).length:Nat):Int):=by rw[lr,em,Int.natCast_emod]
 refine⟨ag (ar (row w' p) q'),?_,q⟩;show gv ((row w' p).map ag) ((λi j=>i%j) _ _)=_;dsimp only;rw[et];exact jo (uf _ pos)
theorem FP{a b:Nat×Nat}{P:D->Prop}(h:P (.bl (!decide (a=b)))):CL (pairD a) (pairD b) P:=by
 refine⟨_,_,Kg a,Kg b,by unfold p5 nD;simp[PyData.depth,PyData.depthAll],?_⟩
 have:PyData.eqv (p5 a) (p5 b)=decide (a=b):=by
  by_cases e:a=b
  ·rw[decide_eq_true e];exact(yp a b).mpr e
  ·rw[decide_eq_false e]
   apply Ct.mpr;exact λz=>e ((yp a b).mp z)
 rw[if_pos rfl,this];exact h
def KH:bP:=λds P=>∃(w:W)(d:Nat×Nat),ds= [.fk w,pairD d]/\Good w/\w.length<=14/\bo w d/\∀r,j4 w d r->P (.lst (r.map pairD))
theorem wc:FnOk P w Z.K mg base bB 2 T.d_round_from.f T.d_round_from.fd ["web","side"] (aF Z KH):=by
 have nd:=nQ.nd;refine aP T.d_round_from.F nQ [0,0,1,0,0] (by decide) (λds R h=>by obtain⟨_,_,rfl,_⟩:=h;rfl) (λbc A outer s H E ds R hr h=>?_)
 have hu:=hr.units
 refine⟨_,(af (hJ 2 nd (eo (ab (aa 1) ae)))
   (af (uM (aa 1) (eu 2 rfl (aN (aG 3 nd) (aN (aG 4 nd) b7))))
   (af (ES 3 4 rfl nd (ab (aa 4) (ab (A1 T.W (aa 0) T.m_behind.m (nj T) (hr.mono (by decide)) T.m_behind.b (ab (aa 4) (ab (aa 3) ae))) ae)))
   (af (oq PassesOwn.never (aK (pV hu) (cG (ab (aa 3) (ab (aa 4) ae))) (aa 1) (aR _)) (af (qB false 2 (cG (ab (aa 3) (ab (aa 4) ae))))
   (ai (ES 3 4 rfl nd (ab (aa 4) (ab (A1 T.W (aa 0) T.m_behind.m (nj T) (hr.mono (by decide)) T.m_behind.b (ab (aa 4) (ab (aa 3) ae))) ae))))))
   (ai (aE (aa 2))))))),?_⟩
 obtain⟨w',d,rfl,g,gb,hd,q⟩:=h;have c1:=vp g;have c2:w'.length*w'.length<=14*14:=Nat.mul_le_mul gb gb;refine⟨_,rfl,by show 1<=sizeLine;decide,?_⟩
 refine⟨_,rfl,rfl,rfl,?_⟩;refine⟨_,rfl,_,rfl,w',rfl,_,rfl,_,rfl,w',d.2,d.1,rfl,g,g.sym _ _ hd,_,_,rfl,?_⟩;refine lU (λm ρ=>∃k,0<k/\m+k=(bf w').length+1/\(∀j,0<j->j<k->fO w' j d≠d)/\ρ= [some (.fk w'),some (pairD d),some (.lst ((walk w' d k).map pairD)),some (ag (fO w' k d).1),some (ag (fO w' k d).2)]) (bf w').length ⟨1,by omega,rfl,λj h1 h2=>by omega,rfl⟩ ?_
 rintro m _ ⟨k,k0,hm,hk,rfl⟩;have hde:=iX g hd k;refine⟨_,rfl,_,rfl,by show 2<=sizeLine;decide,_,rfl,?_⟩
 refine(?_:CL (pairD (fO w' k d)) (pairD d) _);refine FP ⟨_,rfl,bN (λe=>?_) (λe=>?_)⟩
 ·have ne:fO w' k d≠d:=by simpa using e
  have lt:k<(bf w').length:=by
   have:=K2 g hd (k:=k+1) λj h1 h2=>by
    by_cases c:j=k
    ·subst c;exact ne
    ·exact hk j h1 (by omega)
   omega
  refine⟨_,rfl,_,rfl,_,rfl,by show 2<=sizeLine;decide,trivial,fw (by rw[aI,zj];omega),?_⟩
  refine⟨_,rfl,_,rfl,w',rfl,_,rfl,_,rfl,w',(fO w' k d).2,(fO w' k d).1,rfl,g,g.sym _ _ hde,_,_,rfl,?_⟩;refine⟨m-1,by omega,k+1,by omega,by omega,λj h1 h2=>?_,?_⟩
  ·by_cases c:j=k
   ·subst c;exact ne
   ·exact hk j h1 (by omega)
  ·rw[Es,fc];rfl
 ·have e:fO w' k d=d:=by simpa using e
  exact⟨_,rfl,q _ ⟨k,k0,e,hk,rfl⟩⟩
def uQ(rs:List (List (Nat×Nat))):D:= .lst ((rs.map λr=>r.map (·.1)).map av)
def Kz:bP:=λds P=>∃(w:W),ds= [.fk w]/\Good w/\1<=w.length/\w.length<=14/\f7 w<64/\(w.length=1->P (.lst [av [0]]))/\(2<=w.length->∀rs,bM w rs->j8 w=eE rs->P (.lst ((j8 w).map av)))
theorem Gs{l:List (Nat×Nat)}{d:Nat×Nat}(h:d∉l):Bo (l.map zz) (zz d)=(l++ [d]).map zz:=by
 unfold Bo;rw[if_neg (λz=>h (FA.mp z)),fc];rfl
theorem pX:FnOk P w Z.K mg base bB 3 T.d_lands.f T.d_lands.fd ["web"] (gz Z 2 Kz):=by
 have nd:=zb.nd;refine kE 2 T.d_lands.F zb [0,98,2,0,0,0] (by decide) (λds R h=>by obtain⟨_,rfl,_⟩:=h;rfl) (λbc A outer s H E ds R hr h=>?_)
 have hu:=hr.units
 refine⟨_,(af (bh (aK (gf hu) (cQ T.W (aa 0) T.m_many.m (eZ T) (hr.mono (by decide)) T.m_many.b) ao (aR _)) (ai (A3 (Ly (eo (ab ao ae))))) aO)
   (af (FY 1 nd rfl T.x_set)
   (af (hJ 2 nd (Ih 1))
   (af (cu rfl PassesOwn.never (bG (aA (vk hu) rfl T.B.sorted pH (ab (az ba (cQ T.W (aa 0) T.m_ties.m (lH T) (hr.mono (by decide)) T.m_ties.b) (jc (NC:= ["a","b"]) (src:= [none,none]) rfl (lB (aq nB)) trivial (bG (cQ T.W (aa 0) T.m_ties.m (lH T) (hr.mono (by decide)) T.m_ties.b)) (λ_ _ _=>(uL 2 rfl (gk (bF 0 (show(["a","b"]:List Str).Nodup from by decide+kernel)) (gk (bF 1 (show(["a","b"]:List Str).Nodup from by decide+kernel)) qz)))) (λ_ _ _=>cZ) (λ_ _ _=>(cG (ab (aa 1) (ab (aa 0) ae)))))) ae))) (aG 3 nd) (ai (bh (aK (DV hu) (aa 3) (aa 1) (by with_unfolding_all rfl)) (af (aH false 4 nd (ax T.d_round_from (wc T) hr (ab (aa 0) (ab (aa 3) ae))))
   (af (cu rfl PassesOwn.never (bG (aa 4)) (aG 5 nd) (ai (Ik false 1 hu (aa 5))))
   (ai (FX 2 (Ig (NC:= ["p","q"]) (src:= [none,none]) rfl (lB (aq nB)) trivial (bG (aa 4)) (λ_ _ _=>(uL 2 rfl (gk (bF 0 (show(["p","q"]:List Str).Nodup from by decide+kernel)) (gk (bF 1 (show(["p","q"]:List Str).Nodup from by decide+kernel)) qz)))) (λ_ _ _=>cZ) (λ_ _ _=>(aa 0))))))) aO)))
   (ai (A5 2 hu rfl T.B.sorted)))))),?_⟩
 obtain⟨w',rfl,g,h1,gb,AV,q1,q2⟩:=h;have c1:=vp g;have c3:=ja w';have c2:w'.length*w'.length<=14*14:=Nat.mul_le_mul gb gb;have lw:(w'.map av).length=w'.length:=aI _;refine⟨_,rfl,w',rfl,w',rfl,?_⟩;refine xE ⟨_,rfl,bN (λe=>?_) (λe=>?_)⟩
 ·have e:w'.length=1:=by have:=of_decide_eq_true e;omega
  exact⟨by show 1<=sizeLine;decide,q1 e⟩
 have n2:2<=w'.length:=by have:=of_decide_eq_false e;omega
 refine⟨by show 0<=sizeLine;decide,?_⟩
 refine⟨_,rfl,w',rfl,w',rfl,g,gb,AV,λts pm As=>?_⟩;have tl:=wM g;rw[<-ja] at tl;have tl2:=pm.length_eq;refine⟨_,rfl,w',rfl,w',rfl,g,gb,AV,λCf MP OS=>?_⟩;have e2:Cf=ts:=List.Perm.eq_of_pairwise (λ_ _ _ _=>yI) OS As (MP.trans pm.symm);subst e2;refine jK (λρ=>∃o0 o1,ρ= [o0,o1]) pairD (λ_=>true) (λt=>pairD (t.2,t.1)) Cf _ [] _ (λt ht aD hI Y Nn hY hN=>?_) ⟨none,none,rfl⟩ (by rw[xn,Nat.zero_add];exact small (by omega)) λaD hI=>?_
 ·obtain⟨o0,o1,rfl⟩:=hI
  exact⟨rfl,rfl,OY ⟨_,rfl,_,rfl,by show 2<=sizeLine;decide,hY _ ⟨_,_,rfl⟩ rfl⟩⟩
 have pd:=vh g pm;have pl:=pd.length_eq;rw[dG,aI] at pl;have ef:Cf.filter (λ_=>true)=Cf:=by simp
 rw[ue,ef];refine⟨by rw[aI,aI];exact small (by omega),?_⟩
 have ej:(.lst (Cf.map pairD++Cf.map λt=>pairD (t.2,t.1)):D)= .lst ((Cf++Cf.map λt=>(t.2,t.1)).map pairD):=by rw[fc,dX];rfl
 dsimp only[cW];rw[ej];refine⟨_,rfl,by rw[dG,aI];omega,λds MQ Z1=>?_⟩
 have MQ:=MQ.trans pd;have all:∀e,bo w' e->e∈ds:=λe h=>MQ.mem_iff.mpr (b6.mpr h);have EN:∀e∈ds,bo w' e:=λe h=>b6.mp (MQ.mem_iff.mp h);clear pm MP As OS ej pd ef;refine bJ (λi ρ=>∃(rs:List (List (Nat×Nat)))(o3 o4 o5:Option D),ρ= [some (.fk w'),some (.x (.rE (fX w) (rs.flatten.map zz))),some (uQ rs),o3,o4,o5]/\Wk w' ds i rs) ⟨[],none,none,none,rfl,Wk.zero w' ds⟩ ?_ ?_
 ·rintro i d _ hd ⟨rs,o3,o4,o5,rfl,hw⟩ A hA
  obtain⟨e,he,rfl⟩:=bZ hd;have de:=EN e (eS he);refine⟨_,rfl,_,rfl,zz e,rs.flatten.map zz,rfl,rfl,_,rfl,?_⟩;refine(?_:if (if true=true then !decide (zz e∈rs.flatten.map zz) else _)=true then _ else _);rw[if_pos rfl,show decide (zz e∈rs.flatten.map zz)=decide (e∈rs.flatten) from decide_eq_decide.mpr FA]
  have sub:∀x∈rs.flatten,x∈bf w':=λx hx=>by
   obtain⟨r,hr,hxr⟩:=xk.mp hx;obtain⟨d,R,dd,_⟩:=hw.rnd r hr;exact b6.mpr (R.bf g dd x hxr)
  have fl:=bg hw.nod sub;refine bN (λc=>?_) (λc=>?_)
  ·have c:e∉rs.flatten:=by simpa using c
   refine⟨_,rfl,_,rfl,w',e,rfl,g,gb,de,λr R=>⟨trivial,?_⟩⟩;have LV:=hw.take g all EN Z1 he c R;have rd:∀x∈r,x∈bf w':=λx hx=>b6.mpr (R.bf g de x hx);have rl:=bg (R.nodup g de) rd;have Rg:(rs.flatten++r).Nodup:=by have:=LV.nod;rw[Az] at this;simpa using this
   have fl2:(rs.flatten++r).length<=(bf w').length:=bg Rg λx hx=>(fR.mp hx).elim (sub x) (rd x);rw[dG] at fl2;refine⟨_,rfl,?_⟩;refine bJ (λk ρ=>∃o5,ρ= [some (.fk w'),some (.x (.rE (fX w) ((rs.flatten++r.take k).map zz))),some (uQ rs),some (pairD e),some (.lst (r.map pairD)),o5]) ⟨o5,by rw[List.take_zero,pD];rfl⟩ ?_ ?_
   ·rintro k d _ hd ⟨o5,rfl⟩ A hA
    obtain⟨x,hx,rfl⟩:=bZ hd;have hk:=(cT.mp hx).1;have tk:r.take (k+1)=r.take k++ [x]:=by rw[List.take_succ,hx];rfl
    have nx:x∉rs.flatten++r.take k:=λz=>by
     have sp:rs.flatten++r=(rs.flatten++r.take k)++(x::r.drop (k+1)):=by
      rw[xi,<-cT.mp hx|>.2,List.getElem_cons_drop,zp]
     rw[sp] at Rg;exact(gN.mp Rg).2.2 x z x (cw ..) rfl
    refine⟨_,rfl,_,rfl,zz x,rfl,by rw[aI,dG,fj];omega,?_⟩
    rw[Gs nx,xi,<-tk];exact hA _ ⟨_,rfl⟩
   ·rintro _ ⟨o5,rfl⟩
    rw[aI,List.take_length]
    have dl:rs.length<=300:=by
     have h:∀iz:List (List (Nat×Nat)),(∀r∈iz,r≠ [])->iz.length<=iz.flatten.length:=λiz=>by
      induction iz with
      |nil=>intro _;exact br _
      |cons a l ih=>
       intro h;have h1:=Cr.mpr (h a (cw ..));have h2:=ih λr hr=>h r (b8 _ hr);rw[pB,dG,dD];omega
     have:=h rs λr hr z=>by
      obtain⟨d,R,_,_⟩:=hw.rnd r hr
      have:=R.first
      rw[z] at this;cases this
     omega
    refine⟨_,rfl,_,rfl,?_⟩;refine jK (λρ=>∃o0 o1,ρ= [o0,o1]) pairD (λ_=>true) (λt=>ag t.1) r _ [] _ (λt ht aD hI Y Nn hY hN=>?_) ⟨none,none,rfl⟩ (by rw[xn,Nat.zero_add];exact small (by omega)) λaD hI=>?_
    ·obtain⟨o0,o1,rfl⟩:=hI
     exact⟨rfl,rfl,OY ⟨_,rfl,hY _ ⟨_,_,rfl⟩ rfl⟩⟩
    rw[ue,show r.filter (λ_=>true)=r by simp]
    refine⟨fw (by rw[aI,aI];omega),?_⟩
    refine hA _ ⟨rs++ [r],some (pairD e),some (.lst (r.map pairD)),o5,?_,LV⟩
    have e1:uQ (rs++ [r])= .lst ((rs.map λr=>r.map (·.1)).map av++ [.lst (r.map λt=>ag t.1)]):=by
     unfold uQ av;rw[fc,fc];simp only[j0,List.map_nil,dX];rfl
    rw[e1,Az,show[r].flatten=r by simp];rfl
  ·have c:e∈rs.flatten:=by simpa using c
   exact hA _ ⟨rs,_,_,_,rfl,hw.skip he c⟩
 ·rintro _ ⟨rs,o3,o4,o5,rfl,hw⟩
  have hw:Wk w' ds ds.length rs:=by rw[aI] at hw;exact hw
  have fin:=hw.fin g all;have R:bM w' rs:=⟨hw.rnd,fin⟩
  have dl:rs.length<64:=by
   have h:∀iz:List (List (Nat×Nat)),(∀r∈iz,r≠ [])->iz.length<=iz.flatten.length:=λiz=>by
    induction iz with
    |nil=>intro _;exact br _
    |cons a l ih=>
     intro h;have h1:=Cr.mpr (h a (cw ..));have h2:=ih λr hr=>h r (b8 _ hr);rw[pB,dG,dD];omega
   have:=h rs λr hr z=>by
    obtain⟨d,R,_,_⟩:=hw.rnd r hr
    have:=R.first
    rw[z] at this;cases this
   have:=fin.length_eq
   omega
  refine⟨rs.map (λr=>r.map (·.1)),rfl,by rw[aI];omega,λM pm As=>?_⟩
  obtain⟨iz,p',rfl⟩:=L2.rq (λr:List (Nat×Nat)=>r.map (·.1)) M rs pm;have R':=R.JJ p';have e:=Gx g R' As
  have:=q2 n2 iz R' e
  rw[e] at this;exact this
variable {P:Program} {w:World} {mg:Str->Option Value} {base:Heap} {Z:DC} (T:Txt Z mg)
theorem M7{c:dJ}{t u:cx}{E:fJ}{ρ:DN}(I:DN->Prop)(h:∀E':fJ,(∀ρ,I ρ->E'.nx ρ)->HW c t CM E' ρ)(k:∀ρ,I ρ->u E ρ):lX (HW c t CM) u E ρ:=h _ k
theorem fB{t u:cx}{E:fJ}{aD:DN}(ρ:DN)(e:aD=ρ)(h:lX t u E ρ):lX t u E aD:=by rw[e];exact h
theorem EY{n p:Nat}(h:p<n):jD n (p:Int)=some p:=by
 unfold jD;rw[if_pos (by omega),if_pos (by omega)]
 exact congrArg some (by omega)
theorem Dx{w:W}(h:j8 w≠ []):(j8 w).Pairwise kI:=by
 unfold j8 at h ⊢
 split
 ·next z=>exact z.choose_spec.2
 ·next z=>rw[dif_neg z] at h;exact absurd rfl h
variable {P:Program} {w:World} {mg:Str->Option Value} {base:Heap} {Z:DC} (T:Txt Z mg)
def Rs(w:W)(rs:List (List (Nat×Nat))):Prop:=(w.length=1/\rs= [[(0,0)]])\/(2<=w.length/\bM w rs)
theorem Dz{w:W}{P:D->Prop}(g:Good w)(h:∀rs,Rs w rs->(eE rs).Pairwise kI->P (.lst ((eE rs).map av))):(w.length=1->P (.lst [av [0]]))/\(2<=w.length->∀rs,bM w rs->j8 w=eE rs->P (.lst ((j8 w).map av))):=by
 refine⟨λh1=>h [[(0,0)]] (.inl ⟨h1,rfl⟩) (List.pairwise_singleton _ _),λh2 rs R e=>?_⟩
 have ne:j8 w≠ []:=λz=>by
  rw[z] at e
  have rs0:rs= []:=by
   cases rs with
   |nil=>rfl
   |cons a l=>cases e
  have Vo:=R.perm.length_eq;rw[rs0] at Vo;have d0:(bf w).length=0:=Vo.symm
  obtain⟨x,hx⟩:∃x,x∈bf w:=by
   cases g.con 1 (by omega) with
   |step h1 h2=>exact⟨_,b6.mpr (show bo w (_,1) from h2)⟩
  have:=zo hx
  omega
 have s:=Dx ne;rw[e] at s ⊢;exact h rs (.inr ⟨h2,R⟩) s
def tc(w:W):Nat:=(iS (row w) w.length).length
theorem Nm{w:W}(g:Good w):2*tc w=(bf w).length:=by
 have:=(vh g (.refl _)).length_eq
 rw[dG,aI] at this;unfold tc;omega
def Ku:bP:=λds P=>∃(w:W),ds= [.fk w]/\Good w/\1<=w.length/\w.length<=14/\f7 w<64/\∀rs,Rs w rs->(eE rs).Pairwise kI->P (.tup [.int (w.length:Int), .int (tc w:Int), .int (rs.length:Int)])
theorem GN:FnOk P w Z.K mg base bB 4 T.d_count.f T.d_count.fd ["web"] (aF Z Ku):=by
 have nd:=za.nd;refine aP T.d_count.F za [0] (by decide) (λds R h=>by obtain⟨_,rfl,_⟩:=h;rfl) (λbc A outer s H E ds R hr h=>?_)
 have hu:=hr.units;refine⟨_,(ai (aE (cG (ab (cQ T.W (aa 0) T.m_many.m (eZ T) (hr.mono (by decide)) T.m_many.b) (ab (aA aX rfl T.B.len aW (ab (cQ T.W (aa 0) T.m_ties.m (lH T) (hr.mono (by decide)) T.m_ties.b) ae)) (ab (aA aX rfl T.B.len aW (ab (ax T.d_lands ((pX T).imp Kx) hr (ab (aa 0) ae)) ae)) ae)))))),?_⟩
 obtain⟨w',rfl,g,l1,Gw,AV,q⟩:=h;refine⟨_,rfl,w',rfl,w',rfl,_,rfl,w',rfl,w',rfl,g,Gw,AV,λts pm As=>?_⟩
 obtain⟨u1,u2⟩:=Dz (P:=λd=>eN [d] λx=>([.int (w'.length:Int), .int ((ts.map pairD).length:Int),x]:List D).length<=sizeLine/\R (.tup [.int (w'.length:Int), .int ((ts.map pairD).length:Int),x])) g λrs Rr s=>by
  refine⟨by show 3<=sizeLine;decide,?_⟩
  have:=q rs Rr s
  have e1:(ts.map pairD).length=tc w':=by rw[aI,pm.length_eq];rfl
  have e2:((eE rs).map av).length=rs.length:=by rw[aI,aI]
  rw[e1,e2];exact this
 exact⟨_,rfl,w',rfl,g,l1,Gw,AV,u1,u2⟩
def KG:bP:=λds P=>∃(w:W),ds= [.fk w]/\Good w/\1<=w.length/\w.length<=14/\f7 w<64/\∀rs,Rs w rs->(eE rs).Pairwise kI->P (.bl (decide ((w.length:Int)+(rs.length:Int)=(tc w:Int)+2)))
theorem Ai:FnOk P w Z.K mg base bB 5 T.d_is_plane.f T.d_is_plane.fd ["web"] (aF Z KG):=by
 have nd:=rO.nd;refine aP T.d_is_plane.F rO [0,0,0,0] (by decide) (λds R h=>by obtain⟨_,rfl,_⟩:=h;rfl) (λbc A outer s H E ds R hr h=>?_)
 have hu:=hr.units
 refine⟨_,(af (uM (ax T.d_count (GN T) hr (ab (aa 0) ae)) (eu 3 rfl (aN (aG 1 nd) (aN (aG 2 nd) (aN (aG 3 nd) b7)))))
   (ai (aE (oi (gf hu) (az ba (aa 1) (aa 3)) (az ba (aa 2) ao) (aR _))))),?_⟩
 obtain⟨w',rfl,g,l1,Gw,AV,q⟩:=h;refine⟨_,rfl,w',rfl,g,l1,Gw,AV,λrs Rr s=>?_⟩;refine⟨rfl,rfl,?_⟩;refine⟨_,rfl,_,rfl,_,rfl,?_⟩;exact AX (q rs Rr s)
variable {P:Program} {w:World} {mg:Str->Option Value} {base:Heap} {Z:DC} (T:Txt Z mg)
def KD:bP:=λds P=>∃(w:W),ds= [.fk w]/\j3 w/\w.length<=8/\P .aZ
theorem vA{w:W}(F:j3 w)(h8:w.length<=8):f7 w<64:=by have:=F.dg;omega
theorem LI{w:W}(F:j3 w){rs:List (List (Nat×Nat))}(h:Rs w rs):bM w rs:=by
 rcases h with ⟨h,_⟩ | ⟨_,h⟩
 ·have:=F.n3;omega
 ·exact h
theorem wb:FnOk P w Z.K mg base bB 6 T.d_need_plane.f T.d_need_plane.fd ["web"] (aF Z KD):=by
 have nd:=nP.nd;refine aP T.d_need_plane.F nP [0] (by decide) (λds R h=>by obtain⟨_,rfl,_⟩:=h;rfl) (λbc A outer s H E ds R hr h=>?_)
 have hu:=hr.units;refine⟨_,(ai (bh (fS (eU (ax T.d_is_plane (Ai T) hr (ab (aa 0) ae)))) (ai iU) aO)),?_⟩;obtain⟨w',rfl,F,h8,q⟩:=h;have n3:=F.n3;refine⟨_,rfl,w',rfl,F.g,by omega,by omega,vA F h8,λrs Rr s=>?_⟩
 have h1:=F.lands (LI F Rr);have h2:=Nm F.g;rw[ja] at h2;have h3:=F.dg;refine⟨rfl,bN (λe=>absurd (show(w'.length:Int)+(rs.length:Int)=(tc w':Int)+2 by omega) (by simpa [mD] using e)) (λe=>⟨rfl,q⟩)⟩
def KC:bP:=λds P=>∃(w:W),ds= [.fk w, .aZ]/\j3 w/\w.length<=8/\P .aZ
theorem Rc{w:W}(F:j3 w){rs:List (List (Nat×Nat))}(R:bM w rs){l:List Nat}(h:l∈eE rs):l.length=3:=by
 obtain⟨r,hr,rfl⟩:=dE.mp h;rw[aI];exact F.tri.three F.g R r hr
theorem uz:FnOk P w Z.K mg base bB 4 T.d_need_filled.f T.d_need_filled.fd ["web","rim"] (aF Z KC):=by
 have nd:=my.nd;refine aP T.d_need_filled.F my [0,0,0,0] (by decide) (λds R h=>by obtain⟨_,rfl,_⟩:=h;rfl) (λbc A outer s H E ds R hr h=>?_)
 have hu:=hr.units;refine⟨_,(ai (cu rfl PassesOwn.never (eC rfl T.B.enumerate (ab (ax T.d_lands ((pX T).imp Kx) hr (ab (aa 0) ae)) ae)) (eu 2 rfl (aN (aG 2 nd) (aN (aG 3 nd) b7))) (ai (bh (DW.dt (uO (aK (pV hu) (aA aX rfl T.B.len aW (ab (aa 3) ae)) ao (aR _)) (qF (aK (pV hu) (aa 3) (aa 1) (aR _))))) (ai iU) aO)))),?_⟩;obtain⟨w',rfl,F,h8,q⟩:=h;have n3:=F.n3;refine⟨_,rfl,w',rfl,F.g,by omega,by omega,vA F h8,λz=>by omega,λ_ rs Rr el=>?_⟩
 refine bJ (λj ρ=>∃o2 o3,ρ= [some (.fk w'),some .aZ,o2,o3]) ⟨_,_,rfl⟩ ?_ ?_
 ·rintro j d _ hd ⟨o2,o3,rfl⟩ A hA
  obtain⟨x,hx,rfl⟩:=f9 hd;obtain⟨l,hl,rfl⟩:=bZ hx;have l3:=Rc F Rr (by rw[<-el];exact eS hl)
  refine⟨rfl,rfl,?_⟩;refine⟨_,rfl,?_⟩;dsimp only[cW,eN,av];refine GI ⟨_,rfl,?_⟩;rw[show(!decide (((l.map ag).length:Int)=3))=false by rw[aI,l3];rfl]
  exact bH (bH (hA _ ⟨_,_,rfl⟩))
 ·rintro _ ⟨o2,o3,rfl⟩
  exact⟨rfl,q⟩
def oD:Option Nat->D
 |none=> .aZ
 |some k=>ag k
def oV:Option Nat->V
 |none=> .aZ
 |some k=> .int (k:Int)
theorem Ac{G:Hp}:∀os:Os,DvAll Z G (os.map oV) (os.map oD)
 | []=> .nil
 |none::os=> .cons .aZ (Ac os)
 |some k::os=> .cons (.int _) (Ac os)
theorem JD{os:Os}{p:Nat}(h:p<os.length):gv (os.map oD) (p:Int)=some (oD (dB os p)):=bC (by
 unfold dB;rw[cL,bb,bL h];rfl)
def sumF(os:Os)(l:List Nat)(x:Nat):Nat:=((l.filter λp=>decide (p≠x)).map λp=>(dB os p).getD 0).sum
theorem yc{α:Type}(f:α->Nat):∀l:List α,(l.map λp=>((f p:Nat):Int)).sum=(((l.map f).sum:Nat):Int)
 | []=>rfl
 |a::l=>by rw[j0,List.sum_cons,yc f l,j0,List.sum_cons,Int.natCast_add]
def B8(Z:DC):Sp:=λvs H Q _=>∃(G:Hp)(a:Addr)(v:V)(os:Os)(l:List Nat),vs= [.ref a,v]/\aM G H/\H a=some (.lst (os.map oV))/\Dv Z G v (av l)/\l.length=3/\(∀p∈l,p<os.length)/\(∀x,cF os l= [x]->sumF os l x<=3)/\∀H',(∀b o,b≠a->H b=some o->H' b=some o)->H' a=some (.lst ((bO os l).map oV))->Q .aZ H'
theorem Hc{G H:Hp}{a:Addr}{o:HO}(s:aM G H)(h:H a=some o):aM G (upd G a o)/\aM (upd G a o) H:=by
 refine⟨λb u e=>?_,λb u e=>?_⟩
 ·by_cases z:b=a
  ·subst z
   have:=s _ _ e
   rw[h] at this;cases this;exact au
  ·rw[aw z];exact e
 ·by_cases z:b=a
  ·subst z
   rw[au] at e;cases e;exact h
  ·rw[aw z] at e;exact s _ _ e
theorem GO:FnOk P w Z.K mg base bB 1 T.d_third_dyed.f T.d_third_dyed.fd ["dyeing","land"] (B8 Z):=by
 have nd:=nU.nd;refine T.d_third_dyed.F.ok nU (λvs H Q E h=>?_) (λbc A outer s H vs Q E hr h=>?_)
 ·obtain⟨G,a,v,os,l,rfl,_⟩:=h;rfl
 have hu:=hr.units;obtain⟨G,a,v,os,l,rfl,sG,ha,dv,l3,hl,hs,q⟩:=h
 refine⟨_,gX (jM (i:=2) nd rfl (by first|exact Or.inl rfl|exact Or.inr rfl) (jc (Z:=Z) (NC:= ["p","dyeing"]) (src:= [none,some 0]) rfl (lB (aq fQ)) ⟨rfl,rfl,trivial⟩ (bG (aa 1)) (λ_ _ _=>(bF 0 (show(["p","dyeing"]:List Str).Nodup from by decide+kernel))) (λ_ _ _=>(mU (aK pU (aJ (aa 1) (aa 0)) cg (aR _)))) (λ_ _ _=>(aa 0))))
  (rF (Ka (aK (Z:=Z) (gf hu) (aA aX rfl T.B.len aW (ab (aa 2) ae)) ao (aR _)) (rF (oJ
   (az (Z:=Z) qU ao (aA (Lk rfl) rfl T.B.sum Lj (ab (jc (NC:= ["p","dyeing","bare"]) (src:= [none,some 0,some 2]) rfl (lB (aq fQ)) ⟨rfl,rfl,rfl,rfl,trivial⟩ (bG (aa 1)) (λ_ _ _=>(bF 0 (show(["p","dyeing","bare"]:List Str).Nodup from by decide+kernel))) (λ_ _ _=>(mU (aK (pV hu) (aa 0) (aJ (aa 2) ao) (aR _)))) (λ_ _ _=>(aJ (aa 1) (aa 0)))) ae)))
   (rz (pv 0) (aJ (Z:=Z) (aa 2) ao) set_list))) BS)),?_⟩
 obtain⟨s1,s2⟩:=Hc sG ha
 have env:∀(G':Hp)(o:Option V)(o':Option D),aM (upd G a (.lst (os.map oV))) G'->(∀d,o'=some d->∃u,o=some u/\Dv Z G' u d)->dN Z G' [some (.ref a),some v,o] [some (.lst (os.map oD)),some (av l),o']:=λG' o o' s h=>⟨rfl,λi d hd=>by
  match i with
  |0=>cases hd;exact⟨_,rfl, .lst (s _ _ au) (Ac os)⟩
  |1=>cases hd;exact⟨_,rfl,dv.mono (s1.trans s)⟩
  |2=>
   obtain⟨u,rfl,du⟩:=h d (Option.some.inj hd);exact⟨u,rfl,du⟩⟩
 refine⟨_,[some (.lst (os.map oD)),some (av l),none],λd=>d=av (cF os l),s2,env _ none none (.refl _) (λd z=>by cases z),?_,?_⟩
 ·refine⟨_,rfl,jK (λρ=>∃o,ρ= [o,some (.lst (os.map oD))]) ag (λp=>(dB os p).isNone) ag l _ [] _ (λp hp aD hI Y Nn hY hN=>?_) ⟨none,rfl⟩ (by rw[l3];exact small (by simp)) λaD _=>?_⟩
  ·obtain⟨o,rfl⟩:=hI
   refine⟨_,rfl,_,rfl,_,JD (hl p hp),?_⟩;refine⟨sS (oD (dB os p)),rfl,?_⟩;cases e:dB os p with
   |none=>exact b9 ⟨_,rfl,hY _ ⟨_,rfl⟩ (by rw[e];rfl)⟩
   |some k=>exact bH (hN _ ⟨_,rfl⟩ (by rw[e];rfl))
  ·rfl
 rintro _ rfl v1 G2 H2 x2 qC;refine⟨G2,[some (.lst (os.map oD)),some (av l),some (av (cF os l))],λb=>b=decide ((cF os l).length=1),x2.sub,env _ _ _ x2.gg (λd z=>by cases z;exact⟨v1,rfl,qC⟩),?_,?_⟩
 ·refine⟨_,rfl,?_⟩
  dsimp only[cW,eN,av];refine xE ⟨_,rfl,?_⟩;rw[aI];exact decide_eq_decide.mpr (by omega)
 rintro _ rfl G3 H3 x3;have h3:aM H H3:=x2.hh.trans x3.hh
 by_cases c:(cF os l).length=1
 ·rw[decide_eq_true c]
  obtain⟨x,hx⟩:=List.length_eq_one_iff.mp c;have e3:=env G3 (some v1) (some (av (cF os l))) (x2.gg.trans x3.gg) (λd z=>by cases z;exact⟨v1,rfl,qC.mono x3.gg⟩)
  rw[hx] at e3;refine b9 ⟨G3,_,λd=>d= .int ((3-sumF os l x:Nat):Int),x3.sub,e3,?_,?_⟩
  ·refine⟨_,rfl,jK (λρ=>∃o,ρ= [o,some (.lst (os.map oD)),some (av [x])]) ag (λp=>decide (p≠x)) (λp=> .int (((dB os p).getD 0:Nat):Int)) l _ [] _ (λp hp aD hI Y Nn hY hN=>?_) ⟨none,rfl⟩ (by rw[l3];exact small (by simp)) λaD _=>?_⟩
   ·obtain⟨o,rfl⟩:=hI
    refine⟨_,rfl,_,rfl,ag x,rfl,?_⟩;refine(?_:CL (.int (p:Int)) (.int (x:Int)) _);refine qv ⟨_,rfl,?_⟩
    by_cases e:p=x
    ·rw[show(!decide ((p:Int)=(x:Int)))=false by rw[e];simp]
     exact bH (hN _ ⟨_,rfl⟩ (by rw[e];simp))
    ·rw[show(!decide ((p:Int)=(x:Int)))=true by simp;omega]
     have nb:(dB os p).isNone=false:=by
      cases z:(dB os p).isNone with
      |false=>rfl
      |true=>
       have:p∈cF os l:=mF.mpr ⟨hp,z⟩
       rw[hx] at this;exact absurd (iI.mp this) e
     refine b9 ⟨_,rfl,_,rfl,_,JD (hl p hp),?_⟩;cases z:dB os p with
     |none=>rw[z] at nb;cases nb
     |some k=>
      have:=hY [some (ag p),some (.lst (os.map oD)),some (av [x])] ⟨_,rfl⟩ (by simp[e])
      rw[z] at this;exact this
   ·refine⟨(l.filter λp=>decide (p≠x)).map λp=>(((dB os p).getD 0:Nat):Int),by rw[dX,ue];rfl,?_⟩
    refine(?_:D.int (3-_)=D.int _)
    have:=hs x hx
    rw[yc];unfold sumF at this ⊢;rw[Int.ofNat_sub this];rfl
  rintro _ rfl v2 G4 H4 x4 dv4;refine⟨.ref a,rfl,?_⟩;refine⟨G4,_,λd=>d=ag x,x4.sub,e3.mono x4.gg,?_,?_⟩
  ·exact⟨_,rfl,_,rfl,rfl⟩
  rintro _ rfl v3 G5 H5 x5 dv5;have h5:aM H H5:=(h3.trans x4.hh).trans x5.hh
  have xl:x∈l:=by
   have:x∈cF os l:=by rw[hx];exact iI.mpr rfl
   exact(mF.mp this).1
  refine⟨a,os.map oV,(x:Int),x,rfl,dv5.ofInt,h5 _ _ ha,EY (by rw[aI];exact hl x xl),?_⟩
  refine q _ (λb o ne e=>by rw[aw ne];exact h5 _ _ e) ?_
  rw[au]
  have e:bO os l=os.set x (some (3-sumF os l x)):=by
   unfold bO;rw[hx];rfl
  rw[e,xp,dv4.ofInt];rfl
 ·rw[decide_eq_false c]
  refine bH ?_
  have e:bO os l=os:=by
   unfold bO
   split
   ·next h=>rw[h] at c;exact absurd rfl c
   ·rfl
  exact q _ (λb o _ e=>h3 _ _ e) (by rw[e];exact h3 _ _ ha)
variable {P:Program} {w:World} {mg:Str->Option Value} {base:Heap} {Z:DC} (T:Txt Z mg)
theorem Fc{G:Hp}:∀{os:Os}{xs:List V},DvAll Z G xs (os.map oD)->xs=os.map oV
 | [],_,h=>by rw[h.DX];rfl
 |o::os,_,h=>by
  obtain⟨v,us,rfl,a,b⟩:=h.uT;rw[Fc b];cases o with
  |none=>cases a;rfl
  |some k=>rw[a.ofInt];rfl
def KW(os:Os)(l:List Nat):Prop:=l.length=3/\(∀p∈l,p<os.length)/\∀x,cF os l= [x]->sumF os l x<=3
def Lv(md:List Nat)(i:Nat)(te:aY):cx:=λE ρ=>∃(os:Os)(l:List Nat),ρ[i]? =some (some (.lst (os.map oD)))/\te (cA md ρ) (λd=>d=av l/\KW os l/\E.nx (ρ.set i (some (.lst ((bO os l).map oD)))))
theorem FZ{X:Cx}{md:List Nat}{rn k j:Nat}{x y:Str}{py p pos aS:Pos}{e:Expr}{te:aY}{st:Stmt}(i:Nat)(d:cV X.K X.mg x st ["dyeing","land"])(F:FnOk X.prog X.w X.K X.mg X.base bB k d.f d.fd ["dyeing","land"] (B8 Z))(hr:cn j X.A)(he:DE Z X e te)(hg:Gl X x:=by rfl)(hk:k<=j:=by first|decide|omega)
  (ik:(x==("__debug__":Str))=false:=by decide) (gT:starEach [e] X.env=(false,eval e X.env)::starEach [] X.env:=by rfl) (m8:starEach [.Name y py,e] X.env=(false,eval (.Name y py) X.env)::starEach [e] X.env:=by rfl) (eF:(backTo aS (starEach [e] X.env)).any (·.1)=false:=by rfl) (j6:swapsWith (.Call (.Name x p) [.Name y py,e] [] aS) none pos.line X.env=pure false:=by rfl)
  (hm:md.getD i 0=1:=by rfl) (hi:X.N[i]? =some y:=by rfl) (hv:j5 X.env.scope y:=by first|exact Or.inl rfl|exact Or.inr (Or.inl rfl) |exact Or.inr (Or.inr rfl)) (hd:(y==("__debug__":Str))=false:=by decide) (dh:(y==("__classdict__":Str))=false:=by decide):
  DSt Z X md rn (.Expr (.Call (.Name x p) [.Name y py,e] [] aS) pos) (Lv md i te):=by
 refine(jr (rm F (hr.mono hk) hg d.m d.F.kp d.b .nil qa (bV (pv i hi hv hd dh) (bV he dO gT) m8) ik m8 eF) j6).imp ?_;intro D σ H aL;rfl';obtain⟨B,ρ,E,⟨G,fp,S⟩,⟨os,l,h1,h⟩,M⟩:=aL;obtain⟨a,_,_,_,e2,_⟩:=S.one hm h1;ac_rfl;refine⟨_,e2,?_⟩;refine⟨G,_,_,S.ex.sub,S.mW,h,?_⟩;rintro _ ⟨rfl,⟨t1,t2,t3⟩,q⟩ v G1 H1 x1 dv;have S1:=S.grow x1;obtain⟨a',xs,ds,e1,ig,e3,bu,put⟩:=S1.one hm h1;rw[e2] at ig;cases ig;cases e1;refine⟨G1,a,v,os,l,rfl,x1.sub,by rw[<-Fc bu];exact e3,dv,t1,t2,t3,λH' kp ha=>?_⟩
 have S2:=put _ _ (Ac (Z:=Z) (G:=G1) (bO os l))
 have hh:aM (upd H1 a (.lst ((bO os l).map oV))) H':=λb o eb=>by
  by_cases z:b=a
  ·subst z;rw[au] at eb;cases eb;exact ha
  ·rw[aw z] at eb;exact kp b o z eb
 exact M.nx _ q _ _ ⟨G1,fp,S2.grow ⟨.refl _,S2.ex.sub.trans hh,hh,λ_ _ h=>h⟩⟩
theorem LZ{os:Os}:inD .aZ (os.map oD)=decide (none∈os):=by
 unfold inD;rw[List.any_map,Bool.eq_iff_iff];simp only[List.any_eq_true,Function.comp_apply,decide_eq_true_eq]
 constructor
 ·rintro⟨o,ho,h⟩
  cases o with
  |none=>exact ho
  |some k=>simp[oD,ag,fN] at h
 ·exact λh=>⟨none,h,by simp[oD,fN]⟩
theorem Iw(os:Os):(os.map oD).all df=true:=by
 rw[List.all_map,jZ];intro o _;cases o<;>rfl
def M9:bP:=λds P=>∃(w:W),ds= [.fk w]/\j3 w/\w.length<=8/\(∃c,qq w c)/\∀c,qq w c->P (av ((List.range w.length).map c))
theorem pW:FnOk P w Z.K mg base bB 4 T.d_dyed_by_lands.f T.d_dyed_by_lands.fd ["web"] (gz Z 1 M9):=by
 have nd:=jR.nd;refine kE 1 T.d_dyed_by_lands.F jR [0,0,1,0,0,0] (by decide) (λds R h=>by obtain⟨_,rfl,_⟩:=h;rfl) (λbc A outer s H E ds R hr h=>?_)
 have hu:=hr.units
 refine⟨_,af
   (aH false 1 nd (ax T.d_lands ((pX T).imp Kx) hr (ab (aa 0) ae)))
  (af
   (sE 2 (NC:= ["p"]) (src:= [none]) rfl nd (lB (aq fE)) trivial (pJ rfl T.B.range (ab (cQ T.W (aa 0) T.m_many.m (eZ T) (hr.mono (by decide)) T.m_many.b) ae)) (λ_ _ _=>(bF 0 (show(["p"]:List Str).Nodup from by decide+kernel))) (λ_ _ _=>cZ) (λ_ _ _=>cg))
  (af
   (cu rfl PassesOwn.never (eC rfl T.B.enumerate (ab (aJ (aa 1) ao) ae)) (eu 2 rfl (aN (aG 3 nd) (aN (aG 4 nd) b7))) (ai (sF false 2 (aa 4) (aa 3))))
  (af (oq PassesOwn.never (aK v5 cg (aa 2) (by with_unfolding_all rfl)) (ai (cu rfl PassesOwn.never (bG (aa 1)) (aG 5 nd) (ai (FZ 2 T.d_third_dyed (GO T) hr (aa 5))))))
  (ai
   (A4 2)
  )))),?_⟩
 obtain⟨w',rfl,F,h8,⟨c0,C0⟩,q⟩:=h;have n3:=F.n3;have g:=F.g;refine⟨_,rfl,w',rfl,g,by omega,by omega,vA F h8,λz=>by omega,λ_ rs Rr el=>?_⟩
 rw[el];have lm:∀l∈eE rs,∃p q s,l= [p,q,s]/\q∈row w' p/\s∈row w' q/\p∈row w' s:=λl hl=>F.tri.land g Rr hl
 obtain⟨l0,ls,Vh⟩:∃l0 ls,eE rs=l0::ls:=by
  cases e:eE rs with
  |cons a b=>exact⟨a,b,rfl⟩
  |nil=>
   have h1:=F.lands Rr;have h2:=F.dg
   have:rs.length=0:=by
    have:=congrArg List.length e
    rw[aI] at this;exact this
   omega
 obtain⟨p0,q0,s0,e0,t1,t2,t3⟩:=lm l0 (by rw[Vh];exact cw ..)
 have C:=C0.any g t1 (a:=0) (b:=1) (by decide) (by decide) (by decide)
 generalize hc:(λp=>if c0 p=c0 p0 then 0 else if c0 p=c0 q0 then 1 else 3-0-1)=c at C;have cp:c p0=0:=by rw[<-hc];simp
 have cq:c q0=1:=by
  have:=C0.ne _ _ t1
  rw[<-hc];simp[this.symm]
 have cs:c s0=2:=by
  have a1:=C.lt s0 (aQ t3);have a2:=C.ne _ _ t2;have a3:=C.ne _ _ t3;omega
 refine⟨trivial,?_⟩;refine⟨_,rfl,w',rfl,_,rfl,⟨by omega,by omega⟩,?_⟩
 rw[show((w'.length:Int)).toNat=w'.length by omega,Eb]
 refine fU (ρ:= [none]) _ (λ_=>D.aZ) (List.range w'.length) _ (λy hy Y h=>h) rfl (by rw[kX];exact small (by omega)) λaD=>?_
 rw[show(List.range w'.length).map (λ_=>D.aZ)=(List.replicate w'.length (none:Option Nat)).map oD by rw[List.map_replicate,List.map_const',kX];rfl]
 have a0:gv ((eE rs).map av) (0:Int)=some (av [p0,q0,s0]):=bC (p:=0) (by rw[Vh,e0];rfl)
 refine⟨_,rfl,_,a0,?_⟩
 have D0:DyC w' c (List.replicate w'.length none):=⟨kW,λp k h=>by
  rw[n6] at h
  split at h<;>cases h⟩
 have pl:=aQ t1;have ql:=aQ t2;have sl:=aQ t3;refine bJ (λj ρ=>∃(os:Os)(o3 o4:Option D),ρ= [some (.fk w'),some (.lst ((eE rs).map av)),some (.lst (os.map oD)),o3,o4,none]/\DyC w' c os/\∀i,i<j->dB os ([p0,q0,s0].getD i 0)≠none) ⟨_,_,_,rfl,D0,λi h=>by omega⟩ ?_ ?_
 ·rintro j d _ hd ⟨os,o3,o4,rfl,Dj,dn⟩ A hA
  obtain⟨x,hx,rfl⟩:=f9 hd;obtain⟨y,hy,rfl⟩:=bZ hx;have hj:j<3:=(cT.mp hy).1
  have cy:c y=j/\y<w'.length:=by
   match j,hj with
   |0,_=>cases hy;exact⟨cp,pl⟩
   |1,_=>cases hy;exact⟨cq,ql⟩
   |2,_=>cases hy;exact⟨cs,sl⟩
  have ey: [p0,q0,s0].getD j 0=y:=by rw[bb,hy];rfl
  have yl:y<os.length:=by rw[Dj.l];exact cy.2
  refine⟨rfl,rfl,?_⟩;refine⟨_,rfl,trivial,_,rfl,_,rfl,_,y,rfl,EY (by rw[aI];exact yl),?_⟩
  refine hA _ ⟨os.set y (some j),_,_,by rw[xp];rfl,?_,λi hi=>?_⟩
  ·exact Dj.set cy.1
  ·rw[JE yl]
   split
   ·simp
   ·next ne=>
    refine dn i ?_
    have:i≠j:=λz=>ne (by rw[z,ey])
    omega
 ·rintro _ ⟨os,o3,o4,rfl,Dj,dn⟩
  have dp:dB os p0≠none:=dn 0 (by show 0<3;decide)
  have dq:dB os q0≠none:=dn 1 (by show 1<3;decide)
  refine lU (λm ρ=>∃(os:Os)(o5:Option D),ρ= [some (.fk w'),some (.lst ((eE rs).map av)),some (.lst (os.map oD)),o3,o4,o5]/\DyC w' c os/\dB os p0≠none/\dB os q0≠none/\xP os=m) (xP os) ⟨os,_,rfl,Dj,dp,dq,rfl⟩ ?_;rintro m _ ⟨Ak,o5,rfl,D1,d1,d2,rfl⟩;refine⟨_,rfl,rfl,Iw Ak,_,rfl,?_⟩;rw[if_neg cB,LZ];refine bN (λe=>?_) (λe=>?_)
  ·have e:=of_decide_eq_true e
   obtain⟨b,hb,eb⟩:=jB.mp e;have sN:Ak[b]? =some none:=by rw[bL hb,eb]
   obtain⟨r,hr,x,hx,nx,ny⟩:=more F.tri g Rr (D:=λp=>dB Ak p≠none) t1 d1 d2 (by rw[<-D1.l];exact hb) (λz=>z ((get_none hb).mpr sN))
   have nx:dB Ak x=none:=Classical.not_not.mp nx;refine⟨_,rfl,bJ (λk ρ=>∃(wj:Os)(o5:Option D),ρ= [some (.fk w'),some (.lst ((eE rs).map av)),some (.lst (wj.map oD)),o3,o4,o5]/\DyC w' c wj/\(∀i:Nat,wj[i]? =some none->Ak[i]? =some none)/\∀(j:Nat)(l:List Nat),j<k->(eE rs)[j]? =some l->∀x∈l,(∀y∈l,y≠x->dB Ak y≠none)->dB wj x≠none) ⟨Ak,o5,rfl,D1,λ_ h=>h,λj l h=>by omega⟩ ?_ ?_⟩
   ·rintro j d _ hd ⟨wj,o6,rfl,D2,mn,hh⟩ A hA
    obtain⟨l,hl,rfl⟩:=bZ hd;obtain⟨p,q',s',rfl,u1,u2,u3⟩:=lm l (eS hl)
    have inl:∀y∈ [p,q',s'],y<w'.length:=λy hy=>by
     simp only[cD,iK,or_false] at hy
     rcases hy with rfl|rfl|rfl
     ·exact aQ u1
     ·exact aQ u2
     ·exact aQ u3
    obtain⟨a1,a2,a3⟩:=Hm C g D2 u1 u2 u3;refine⟨wj,[p,q',s'],rfl,_,rfl,rfl,⟨rfl,λy hy=>by rw[D2.l];exact inl y hy,Em C g D2 u1 u2 u3⟩,?_⟩
    refine hA _ ⟨bO wj [p,q',s'],_,rfl,a1,λi h=>mn i (a2 i h),λj' l' LQ Gk x' qK zZ=>?_⟩
    by_cases z:j'=j
    ·subst z
     rw[hl] at Gk;cases Gk;exact a3 x' qK λy hy ne=>oH (by rw[D2.l,D1.l]) mn (by rw[D1.l];exact inl y hy) (zZ y hy ne)
    ·have o2:=hh j' l' (by omega) Gk x' qK zZ
     obtain⟨_,_,_,rfl,v1,v2,v3⟩:=lm l' (eS Gk);refine oH (by rw[a1.l,D2.l]) a2 ?_ o2
     rw[D2.l];simp only[cD,iK,or_false] at qK
     rcases qK with rfl|rfl|rfl
     ·exact aQ v1
     ·exact aQ v2
     ·exact aQ v3
   ·rintro _ ⟨wj,o6,rfl,D2,mn,hh⟩
    have le:wj.length=Ak.length:=by rw[D2.l,D1.l]
    obtain⟨j,hj⟩:=pA (dE.mpr ⟨r,hr,rfl⟩:r.map (·.1)∈eE rs)
    have xl:x<w'.length:=by
     obtain⟨_,_,_,e,v1,v2,v3⟩:=lm _ (eS hj);rw[e] at hx;simp only[cD,iK,or_false] at hx
     rcases hx with rfl|rfl|rfl
     ·exact aQ v1
     ·exact aQ v2
     ·exact aQ v3
    have Q0:=hh j _ (by rw[aI];exact(cT.mp hj).1) hj x hx ny
    refine⟨xP wj,E8 (i:=x) le.symm mn ((get_none (by rw[D1.l];exact xl)).mp nx) (λz=>Q0 ((get_none (by rw[D2.l];exact xl)).mpr z)),wj,o6,rfl,D2,oH le mn (by rw[D1.l];exact pl) d1,oH le mn (by rw[D1.l];exact ql) d2,rfl⟩
  ·have e:=of_decide_eq_false e
   have ea:=D1.all e;refine⟨_,rfl,?_⟩
   have:=q c C
   rw[show av ((List.range w'.length).map c)= .lst (Ak.map oD) by rw[ea];unfold av;rw[dX,dX];rfl] at this
   exact this
variable {P:Program} {w:World} {mg:Str->Option Value} {base:Heap} {Z:DC} (T:Txt Z mg)
def KJ:bP:=λds P=>∃(w:W),ds= [.fk w]/\j3 w/\w.length<=8/\(∀p,p<w.length->(row w p).length%2=1->P (.tup [.str "wheel",ag p,av (row w p)]))/\∀c,qq w c->P (.tup [.str "dyed",av ((List.range w.length).map c)])
theorem FG:∀n:Nat,n<=8->mD (.int (Builtin.bitAnd (n:Int) 1))=decide (n%2=1):=by decide
theorem wg:FnOk P w Z.K mg base bB 7 T.d_three_dyes.f T.d_three_dyes.fd ["web"] (aF Z KJ):=by
 have nd:=nV.nd;refine aP T.d_three_dyes.F nV [0,0,0] (by decide) (λds R h=>by obtain⟨_,rfl,_⟩:=h;rfl) (λbc A outer s H E ds R hr h=>?_)
 have hu:=hr.units
 refine⟨_,(af (bh (aK Ae (cQ T.W (aa 0) T.m_many.m (eZ T) (hr.mono (by decide)) T.m_many.b) ao (aR _)) (ai iU) aO)
   (af (vw (ax T.d_need_plane (wb T) hr (ab (aa 0) ae)))
   (af (vw (ax T.d_need_filled (uz T) hr (ab (aa 0) (ab cg ae))))
   (af (cu rfl PassesOwn.never (eC rfl T.B.enumerate (ab (cQ T.W (aa 0) T.m_turns.m (j9 T) (hr.mono (by decide)) T.m_turns.b) ae)) (eu 2 rfl (aN (aG 1 nd) (aN (aG 2 nd) b7))) (ai (bh (eU (az JF (aA aX rfl T.B.len aW (ab (aa 2) ae)) ao)) (ai (aE (cG (ab dj (ab (aa 1) (ab (aa 2) ae)))))) aO)))
   (ai (aE (cG (ab dj (ab (ax T.d_dyed_by_lands ((pW T).imp Kx) hr (ab (aa 0) ae)) ae))))))))),?_⟩
 obtain⟨w',rfl,F,h8,q1,q2⟩:=h;have n3:=F.n3;have g:=F.g;refine⟨_,rfl,w',rfl,w',rfl,_,rfl,yD (decide_eq_false (by omega)) ?_⟩
 refine⟨_,rfl,w',rfl,F,h8,?_⟩;refine⟨_,rfl,w',rfl,F,h8,?_⟩;refine⟨_,rfl,w',rfl,w',rfl,by omega,?_⟩
 refine bJ (λj ρ=>∃o1 o2,ρ= [some (.fk w'),o1,o2]/\∀i,i<j->(row w' i).length%2=0) ⟨_,_,rfl,λi h=>by omega⟩ ?_ ?_
 ·rintro j d _ hd ⟨o1,o2,rfl,ev⟩ A hA
  obtain⟨hj,rfl⟩:=wR hd;have rl:=e9 g j;refine⟨rfl,rfl,?_⟩;refine⟨_,rfl,?_⟩;dsimp only[cW,eN,av];refine(?_:Je (.int (Builtin.bitAnd (((row w' j).map ag).length:Int) 1))=true/\_);refine⟨rfl,?_⟩;rw[aI,FG _ (by omega)]
  refine bN (λe=>?_) (λe=>?_)
  ·exact⟨_,rfl,_,rfl,by show 3<=sizeLine;decide,q1 j hj (of_decide_eq_true e)⟩
  ·refine hA _ ⟨_,_,rfl,λi hi=>?_⟩
   have e:=of_decide_eq_false e
   by_cases z:i=j
   ·subst z;omega
   ·exact ev i (by omega)
 ·rintro _ ⟨o1,o2,rfl,ev⟩
  obtain⟨c,C⟩:=F.cc λp hp=>ev p (by rw[gR,aI];exact hp)
  refine⟨_,rfl,w',rfl,F,h8,⟨c,C⟩,λc C=>⟨by show 2<=sizeLine;decide,q2 c C⟩⟩
variable {P:Program} {w:World} {mg:Str->Option Value} {base:Heap} {Z:DC} (T:Txt Z mg)
def ze:bP:=λds P=>∃(ns:List Int)(k:Nat),ds= [.lN ns,ag k]/\∀v:Int,P (.int v)
theorem cS:FnOk P w Z.K mg base bB 1 T.d__law_cell_at.f T.d__law_cell_at.fd ["_law_script","_law_k"] (aF Z ze):=by
 have nd:=kO.nd;refine aP T.d__law_cell_at.F kO [0,0] (by decide) (λds R h=>by obtain⟨_,_,rfl,_⟩:=h;rfl) (λbc A outer s H E ds R hr h=>?_)
 have hu:=hr.units
 refine⟨_,(af (bh (aK Ae (aa 1) (aA aX rfl T.B.len aW (ab (aa 0) ae)) (aR _)) (ai (aE (aJ (aa 0) (aa 1)))) aO)
   (ai (aE ao))),?_⟩
 obtain⟨ns,k,rfl,q⟩:=h;refine⟨_,rfl,_,rfl,?_⟩;refine⟨_,rfl,bN (λe=>?_) (λe=>?_)⟩
 ·have hk:k<ns.length:=by
   have:=of_decide_eq_true e
   omega
  exact⟨_,rfl,_,rfl,_,AJ (bL hk),q _⟩
 ·exact q 0
def B3:bP:=λds P=>∃(c:Int),ds= [.int c]/\∀v:Int,P (.int v)
theorem jq:FnOk P w Z.K mg base bB 1 T.d__law_drawn.f T.d__law_drawn.fd ["_law_cell"] (aF Z B3):=by
 have nd:=nH.nd;refine aP T.d__law_drawn.F nH [0,0] (by decide) (λds R h=>by obtain⟨_,rfl,_⟩:=h;rfl) (λbc A outer s H E ds R hr h=>?_)
 have hu:=hr.units
 refine⟨_,(af (bh (DW.dt (pK (aK (gf hu) (aa 0) ao (aR _)) (oz (DW.dt (uO (aK (gf hu) (az cv (aa 0) ao) ao (aR _)) (qF (aK vZ (aa 0) (az Fe ao ao) (aR _)))))))) (ai (aE (az eY (aa 0) ao))) aO)
   (af (aH false 1 nd (az cv (az ba (az uS (az cv (aa 0) ao) ao) ao) ao))
   (af (aH false 1 nd (az cv (az ba (az uS (aa 1) (aa 1)) ao) ao))
   (ai (aE (az eY (az Fe (az ba (aa 1) ao) ao) ao)))))),?_⟩
 obtain⟨c,rfl,q⟩:=h;have m1:=gU (c%2147483629*48271+7919) 2147483647 (by decide)
 have m2:=gU ((c%2147483629*48271+7919)%2147483647*((c%2147483629*48271+7919)%2147483647)+104729) 2147483629 (by decide)
 have fin:∀v:Int,R (.int v):=q;refine⟨_,rfl,xE ⟨_,rfl,bN (λ_=>b9 ⟨_,rfl,⟨by decide,by decide⟩,q _⟩) (λ_=>?_)⟩⟩
 refine⟨_,rfl,(by show(0:Int)<2;decide),xE ⟨_,rfl,bN (λ_=>⟨_,rfl,⟨by decide,by decide,by decide⟩,_,rfl,bN (λ_=>⟨_,rfl,⟨by decide,by decide⟩,q _⟩) (λ_=>?_)⟩) (λ_=>bH ?_)⟩⟩
 ·refine⟨_,rfl,(by show(0:Int)<2147483629;decide), .inr ⟨by decide,by decide⟩,(by show(0:Int)<2147483647;decide),trivial,?_⟩
  refine⟨_,rfl,_,rfl, .inl ⟨by dsimp only;omega,by dsimp only;omega⟩,(by show(0:Int)<2147483629;decide),trivial,?_⟩
  exact⟨_,rfl,⟨by decide,by decide,by dsimp only;omega⟩,⟨by decide,by decide⟩,q _⟩
 ·refine⟨_,rfl,(by show(0:Int)<2147483629;decide), .inr ⟨by decide,by decide⟩,(by show(0:Int)<2147483647;decide),trivial,?_⟩
  refine⟨_,rfl,_,rfl, .inl ⟨by dsimp only;omega,by dsimp only;omega⟩,(by show(0:Int)<2147483629;decide),trivial,?_⟩
  exact⟨_,rfl,⟨by decide,by decide,by dsimp only;omega⟩,⟨by decide,by decide⟩,q _⟩
variable {P:Program} {w:World} {mg:Str->Option Value} {base:Heap} {Z:DC} (T:Txt Z mg)
def Gd(w:W)(R:List Nat):Prop:=cJ w R/\CC w R/\f7 w+2*R.length+6=6*w.length
def Ky:bP:=λds P=>∃(a b:Int),ds= [.int (a*12+b), .int 3]/\0<=b/\b<5/\∀w R,Gd w R->w.length<=7->P (.tup [ay w,av R])
theorem v8:FnOk P w Z.K mg base bB 1 T.d__law_grown.f T.d__law_grown.fd ["_law_number","_law_least"] (aF Z Ky):=by
 have nd:=nI.nd;refine aP T.d__law_grown.F nI [0,0,1,0,0,0,0,0,0,0] (by decide) (λds R h=>by obtain⟨_,_,rfl,_⟩:=h;rfl) (λbc A outer s H E ds R hr h=>?_)
 have hu:=hr.units
 refine⟨_,(af (hJ 2 nd (eo (ab (di (ab ao (ab ao ae))) (ab (di (ab ao (ab ao ae))) (ab (di (ab ao (ab ao ae))) ae)))))
   (af (aH false 3 nd (di (ab ao (ab ao (ab ao ae)))))
   (af (aH false 4 nd (az ba (aa 1) (az cv (aa 0) (az qU ao (aa 1)))))
   (af (aH false 0 nd (az eY (aa 0) (az qU ao (aa 1))))
   (af (vx rfl PassesOwn.never (CP rfl T.B.range (ab ao (ab (aa 4) ae))) (aG 5 nd) (af (aH false 6 nd (az cv (aa 0) (aA aX rfl T.B.len aW (ab (aa 3) ae))))
   (af (aH false 7 nd (az ba ao (az cv (az eY (aa 0) (aA aX rfl T.B.len aW (ab (aa 3) ae))) (az qU (aA aX rfl T.B.len aW (ab (aa 3) ae)) ao))))
   (af (aH false 0 nd (az eY (aa 0) (az uS (aA aX rfl T.B.len aW (ab (aa 3) ae)) (az qU (aA aX rfl T.B.len aW (ab (aa 3) ae)) ao))))
   (af (aH false 3 nd (az ba (cR (aa 3) (cY (aa 6)) cX) (cR (aa 3) cX (cY (aa 6)))))
   (af (aH false 8 nd (cR (aa 3) cX (cY (az ba (aa 7) ao))))
   (af (qB false 2 (tO rfl rfl T.B.list rfl T.B.reversed (ab (aa 8) ae)))
   (af (gQ 2 (aJ (aa 8) ao) (om (di (ab (aa 5) ae)) (aJ (aa 2) (aJ (aa 8) ao))))
   (af (cu rfl PassesOwn.never (bG (cR (aa 8) (cY ao) cX)) (aG 9 nd) (ai (gQ 2 (aa 9) (om (aJ (aa 2) (aa 9)) (di (ab (aa 5) ae))))))
   (ai (aH false 3 nd (az ba (di (ab (aJ (aa 8) ao) (ab (aa 5) ae))) (cR (aa 3) (cY (aa 7)) cX)))))))))))))
   (ai (aE (cG (ab (aa 2) (ab (aa 3) ae)))))))))),?_⟩
 obtain⟨a0,b0,rfl,Qz,hb5,q⟩:=h;have hn:(a0*12+b0)%12=b0:=by omega
 generalize a0*12+b0=n at hn;refine⟨by show 2<=sizeLine;decide,by show 2<=sizeLine;decide,by show 2<=sizeLine;decide,by show 3<=sizeLine;decide,?_⟩
 refine⟨by show 3<=sizeLine;decide,trivial,?_⟩
 refine⟨_,rfl,_,rfl,_,rfl,(by show(0:Int)<12;decide),trivial,?_⟩
 refine⟨_,rfl,_,rfl,⟨by decide,by decide⟩,trivial,?_⟩
 refine(?_:lX _ _ _ [some (.int (n / 12)),some (.int 3),some (ay iG),some (av [0,1,2]),some (.int (3+n%12)),none,none,none,none,none]);have m12:=gU n 12 (by decide)
 refine⟨_,rfl,⟨by decide,by decide,by show-(2^62)<=3+n%12;omega,by show 3+n%12<2^62;omega⟩,?_⟩
 rw[show(3+n%12-3).toNat=(n%12).toNat by omega]
 refine Bc (λj ρ=>∃(x:Int)(w:W)(R:List Nat)(o4 o5 o6 o7 o8:Option D),ρ= [some (.int x),some (.int 3),some (ay w),some (av R),some (.int (3+n%12)),o4,o5,o6,o7,o8]/\Gd w R/\w.length=3+j) ?_ ?_ ?_
 ·exact⟨_,[[1,2],[2,0],[0,1]],[0,1,2],_,_,_,_,_,rfl,⟨zS,FJ,rfl⟩,rfl⟩
 ·rintro j _ hj ⟨x,w',R',o4,o5,o6,o7,o8,rfl,⟨Gr,Cc,Dg⟩,hl⟩ A hA
  have h3:=Gr.len;have aav:=Gr.RJ;have lR:(R'.map ag).length=R'.length:=aI _;have e0:(0:Int)<((R'.map ag).length:Int):=by rw[lR];omega
  have e1:(0:Int)<((R'.map ag).length:Int)-1:=by rw[lR];omega
  have e2:((R'.map ag).length:Int)<=14:=by rw[lR];omega
  refine⟨_,rfl,_,rfl,e0,trivial,?_⟩;refine⟨_,rfl,_,rfl,⟨e0,by omega⟩,_,rfl,e1,trivial,?_⟩
  have m1:=gU x ((R'.map ag).length:Int) e0;have m2:=gU (x / ((R'.map ag).length:Int)) (((R'.map ag).length:Int)-1) e1;generalize LJ:x%((R'.map ag).length:Int)=at_ at m1;generalize VM:x / ((R'.map ag).length:Int)%(((R'.map ag).length:Int)-1)=fr at m2;obtain⟨a,rfl⟩:∃a:Nat,at_=(a:Int):=⟨at_.toNat,by omega⟩
  obtain⟨f',rfl⟩:∃f:Nat,fr=(f:Int):=⟨fr.toNat,by omega⟩
  rw[lR] at m1 m2;have p1:(0:Int)<((R'.map ag).length:Int)*(((R'.map ag).length:Int)-1):=Int.mul_pos e0 e1;have p2:((R'.map ag).length:Int)*(((R'.map ag).length:Int)-1)<=14*13:=Int.mul_le_mul e2 (by omega) (by omega) (by decide)
  refine⟨_,rfl,_,rfl,_,rfl, .inl ⟨by omega,by omega⟩,⟨p1,(show((R'.map ag).length:Int)*(((R'.map ag).length:Int)-1)<1073741824 by omega)⟩,trivial,?_⟩
  clear p1 p2;refine(?_:lX _ _ _ [some (.int (x / (((R'.map ag).length:Int)*(((R'.map ag).length:Int)-1)))),some (.int 3),some (ay w'),some (av R'),some (.int (3+n%12)),some (.int (3+(j:Int))),some (.int (x%((R'.map ag).length:Int))),some (.int (1+x / ((R'.map ag).length:Int)%(((R'.map ag).length:Int)-1))),o7,o8]);rw[LJ,VM];generalize x / (((R'.map ag).length:Int)*(((R'.map ag).length:Int)-1))=x2;have ca:cutD (R'.map ag) (some (a:Int)) none=(R'.drop a).map ag:=by rw[fY _ _ (by rw[lR];omega),sg]
  have cb:cutD (R'.map ag) none (some (a:Int))=(R'.take a).map ag:=by rw[fZ _ _ (by rw[lR];omega),r9]
  have xt:cJ w' (R'.drop a++R'.take a):=by
   have:=Gr
   rw[<-zp a R'] at this;exact this.RH
  have Sd:CC w' (R'.drop a++R'.take a):=by
   have:=Cc
   rw[<-zp a R'] at this;exact this.RH
  have W8:(R'.drop a++R'.take a).length=R'.length:=by rw[dG,kY,fj];omega
  have xY:(cutD (R'.map ag) (some (a:Int)) none).length+(cutD (R'.map ag) none (some (a:Int))).length<=sizeLine:=by
   rw[ca,cb,aI,aI];exact small (by rw[dG] at W8;omega)
  have er:(.lst (cutD (R'.map ag) (some (a:Int)) none++cutD (R'.map ag) none (some (a:Int))):D)=av (R'.drop a++R'.take a):=by rw[ca,cb];unfold av;rw[fc]
  refine⟨_,rfl,_,rfl,_,rfl,_,rfl,xY,trivial,?_⟩;refine(?_:lX _ _ _ [some (.int x2),some (.int 3),some (ay w'),some (.lst (cutD (R'.map ag) (some (a:Int)) none++cutD (R'.map ag) none (some (a:Int)))),some (.int (3+n%12)),some (.int (3+(j:Int))),some (.int (a:Int)),some (.int (1+(f':Int))),o7,o8]);rw[er];clear er ca cb xY;generalize R'.drop a++R'.take a=R1 at xt W8 Sd;have l1:(R1.map ag).length=R1.length:=aI _
  have ct:cutD (R1.map ag) none (some ((1:Int)+(f':Int)+1))=(R1.take (f'+1+1)).map ag:=by
   rw[show(1:Int)+(f':Int)+1=((f'+1+1:Nat):Int) by omega,fZ _ _ (by rw[l1];omega),r9]
  refine⟨_,rfl,_,rfl,trivial,?_⟩;refine(?_:lX _ _ _ [some (.int x2),some (.int 3),some (ay w'),some (av R1),some (.int (3+n%12)),some (.int (3+(j:Int))),some (.int (a:Int)),some (.int (1+(f':Int))),some (.lst (cutD (R1.map ag) none (some ((1:Int)+(f':Int)+1)))),o8]);rw[ct];have By:(R1.take (f'+1+1)).length=f'+2:=by rw[fj];omega
  have la:((R1.take (f'+1+1)).map ag).length=f'+2:=by rw[aI];exact By
  have lw:(w'.map av).length=3+j:=by rw[aI];exact hl
  refine⟨_,rfl,_,rfl,trivial,fw (by rw[lw];omega),?_⟩
  have ea:(.lst (w'.map av++ [.lst ((R1.take (f'+1+1)).map ag).reverse]):D)=ay (w'++ [(R1.take (f'+1+1)).reverse]):=by
   unfold ay av;rw[fc,<-List.map_reverse];rfl
  refine(?_:lX _ _ _ [some (.int x2),some (.int 3),some (.lst (w'.map av++ [.lst ((R1.take (f'+1+1)).map ag).reverse])),some (av R1),some (.int (3+n%12)),some (.int (3+(j:Int))),some (.int (a:Int)),some (.int (1+(f':Int))),some (av (R1.take (f'+1+1))),o8]);rw[ea];clear ea;have Kh:R1.getD 0 0<w'.length:=xt.Ko (bw (by omega))
  have g0:(R1.take (f'+1+1)).getD 0 0=R1.getD 0 0:=by rw[bb,w9 (by omega),<-bb]
  have a0:gv ((R1.take (f'+1+1)).map ag) (0:Int)=some (ag (R1.getD 0 0)):=by
   have:=jo (ns:=R1.take (f'+1+1)) (p:=0) (by omega)
   rw[g0] at this;exact this
  have lw1:(w'++ [(R1.take (f'+1+1)).reverse]).length=w'.length+1:=by simp
  have a1:=ck (w:=w'++ [(R1.take (f'+1+1)).reverse]) (p:=R1.getD 0 0) (by omega)
  rw[kM,if_neg (by omega)] at a1
  have rl0:=e9 xt.g (R1.getD 0 0);have ev:(3:Int)+(j:Int)=((w'.length:Nat):Int):=by omega
  refine⟨_,rfl,by show 1<=sizeLine;decide,_,rfl,_,rfl,_,rfl,_,a0,_,a1,_,rfl,small (by rw[aI];show 1+_<=1000;omega),?_,_,rfl,_,rfl,_,a0,_,R1.getD 0 0,rfl,bU (by rw[aI];omega),?_⟩
  ·rw[wX,bQ];rfl
  have d0:f7 ((w'++ [(R1.take (f'+1+1)).reverse]).set (R1.getD 0 0) (w'.length::row w' (R1.getD 0 0)))=f7 w'+(f'+2)+1+0:=by
   have:=mT (r:=w'.length::row w' (R1.getD 0 0)) (w:=w'++ [(R1.take (f'+1+1)).reverse]) (p:=R1.getD 0 0) (by omega)
   rw[kM,if_neg (by omega),yg,zr,By,dD] at this
   omega
  have M0:=u0.start (w:=w') (R:=R1) (f:=f'+1) Kh
  have es:(.lst (((w'++ [(R1.take (f'+1+1)).reverse]).map av).set (R1.getD 0 0) (.lst ([.int ((3:Int)+(j:Int))]++(row w' (R1.getD 0 0)).map ag))):D)=ay ((w'++ [(R1.take (f'+1+1)).reverse]).set (R1.getD 0 0) (w'.length::row w' (R1.getD 0 0))):=by
   rw[ev];unfold ay;rw[<-dH];rfl
  refine(?_:lX _ _ _ [some (.int x2),some (.int 3),some (.lst (((w'++ [(R1.take (f'+1+1)).reverse]).map av).set (R1.getD 0 0) (.lst ([.int ((3:Int)+(j:Int))]++(row w' (R1.getD 0 0)).map ag)))),some (av R1),some (.int (3+n%12)),some (.int (3+(j:Int))),some (.int (a:Int)),some (.int (1+(f':Int))),some (av (R1.take (f'+1+1))),o8]);rw[es];clear es a1
  have cd:cutD ((R1.take (f'+1+1)).map ag) (some (1:Int)) none=((R1.take (f'+1+1)).drop 1).map ag:=by
   have:=fY ((R1.take (f'+1+1)).map ag) 1 (by rw[la];omega)
   rw[sg];exact this
  have ld:((R1.take (f'+1+1)).drop 1).length=f'+1:=by rw[kY,By];omega
  refine⟨_,rfl,?_⟩;refine(?_:lY _ _ _ (cutD ((R1.take (f'+1+1)).map ag) (some (1:Int)) none) _);rw[cd];refine bJ (λk ρ=>∃(w2:W)(o8:Option D),ρ= [some (.int x2),some (.int 3),some (ay w2),some (av R1),some (.int (3+n%12)),some (.int (3+(j:Int))),some (.int (a:Int)),some (.int (1+(f':Int))),some (av (R1.take (f'+1+1))),o8]/\u0 w' w2 R1 (f'+1) k/\f7 w2=f7 w'+(f'+2)+1+k) ⟨_,_,rfl,M0,d0⟩ ?_ ?_
  ·rintro k d _ hd ⟨w2,p8,rfl,M,dM⟩ A' zT
   obtain⟨y,hy,rfl⟩:=bZ hd
   have hk:k<f'+1:=by
    have:=(cT.mp hy).1
    omega
   have ey:y=R1.getD (k+1) 0:=by
    rw[Cs,w9 (by omega)] at hy
    rw[bb,Nat.add_comm k 1,hy];rfl
   subst ey;have R4:R1.getD (k+1) 0<w'.length:=xt.Ko (bw (by omega))
   have l2:=M.l;have a2:=ck (w:=w2) (p:=R1.getD (k+1) 0) (by omega)
   have rl:(row w2 (R1.getD (k+1) 0)).length<=14:=by
    rw[M.ro _ (by omega) (λi hi e=>by have:=getD_inj xt.nd (by omega) (by omega) e;omega)]
    have:=e9 xt.g (R1.getD (k+1) 0)
    omega
   refine⟨_,rfl,_,rfl,_,a2,_,rfl,_,rfl,by show 1<=sizeLine;decide,_,rfl,small (by rw[aI];show _+1<=1000;omega),?_,_,rfl,_,rfl,_,R1.getD (k+1) 0,rfl,bU (by rw[aI];omega),?_⟩
   ·rw[wX,bQ];rfl
   refine zT _ ⟨w2.set (R1.getD (k+1) 0) (row w2 (R1.getD (k+1) 0)++ [w'.length]),some (ag (R1.getD (k+1) 0)),?_,M.step xt.nd (by omega) (by omega) R4,by
    have:=mT (r:=row w2 (R1.getD (k+1) 0)++ [w'.length]) (w:=w2) (p:=R1.getD (k+1) 0) (by omega)
    rw[dG,xg] at this
    omega⟩
   have Qh:(.lst ((w2.map av).set (R1.getD (k+1) 0) (.lst ((row w2 (R1.getD (k+1) 0)).map ag++ [.int ((3:Int)+(j:Int))]))):D)=ay (w2.set (R1.getD (k+1) 0) (row w2 (R1.getD (k+1) 0)++ [w'.length])):=by
    rw[ev];unfold ay;rw[<-dH];unfold av;rw[fc];rfl
   rw[<-Qh];rfl
  ·rintro _ ⟨w2,p8,rfl,M,dM⟩
   rw[aI,ld] at M dM;have St:=M.fin (by omega) (by omega)
   have G2:=ua xt St
   have cf:cutD (R1.map ag) (some ((1:Int)+(f':Int))) none=(R1.drop (f'+1)).map ag:=by
    rw[show(1:Int)+(f':Int)=((f'+1:Nat):Int) by omega,fY _ _ (by rw[l1];omega),sg]
   have szf:(2:Nat)+(cutD (R1.map ag) (some ((1:Int)+(f':Int))) none).length<=sizeLine:=by
    rw[cf,aI,kY];exact small (by omega)
   refine⟨_,rfl,_,a0,_,rfl,by show 2<=sizeLine;decide,_,rfl,_,rfl,szf,trivial,?_⟩
   refine hA _ ⟨x2,w2,bW R1 (f'+1) w'.length,some (.int (3+(j:Int))),some (.int (a:Int)),some (.int (1+(f':Int))),some (av (R1.take (f'+1+1))),p8,?_,⟨G2,zg xt St Sd,by
    have:=(lL xt St).len
    have:=M.l
    omega⟩,by rw[M.l];omega⟩
   have ef:(.lst ([ag (R1.getD 0 0), .int ((3:Int)+(j:Int))]++cutD (R1.map ag) (some ((1:Int)+(f':Int))) none):D)=av (bW R1 (f'+1) w'.length):=by
    rw[cf,ev];unfold bW av;rfl
   rw[<-ef];rfl
 ·rintro _ ⟨x,w',R',o4,o5,o6,o7,o8,rfl,⟨Gr,Cc,Dg⟩,hl⟩
  exact⟨_,rfl,_,rfl,by show 2<=sizeLine;decide,q _ _ ⟨Gr,Cc,Dg⟩ (by omega)⟩
end lg
namespace L2
open PySem PySem.Spec PyProof.Rows
section
variable {Z:DC} {X:Cx} {md:List Nat}
def HY(i:Nat)(t:cx):cx:=λE ρ=>(∃d,ρ[i]? =some (some d))/\t {nx:=λ_=>False,rt:=E.rt} ρ
theorem A6(i:Nat){Ei:List Stmt}{t:cx}(h:oK Z X (md.set i 0) 0 Ei t):oK Z X md 0 Ei (HY i t):=by
 refine lj.imp h ?_;rintro Dn σ H ⟨B,ρ,E,⟨G,fp,S⟩,⟨⟨d,hd⟩,ht⟩,M⟩;obtain⟨v,hv,dv,S'⟩:=S.An hd;refine⟨B,ρ,_,⟨_,_,⟨S'.ex,S'.fl,S.len,λj c hj=>?_,S'.nd,S'.ap,S'.nw⟩⟩,ht,⟨λ_ z=>z.elim,M.rt,λ_ z=>z.elim,λ_ z=>z.elim,λ_ _ z=>z.elim⟩⟩
 by_cases e:j=i
 ·subst e
  rw[hd] at hj;cases hj;refine⟨v,hv,?_⟩
  have:(md.set j 0).getD j 0=0:=by
   rw[bb,gM]
   split<;>first| (split<;>rfl) |exact absurd rfl ‹_›
  rw[this,if_pos rfl];exact⟨dv,rfl⟩
 ·obtain⟨u,hu,ow⟩:=S'.at_ j c (by rw[gG (Ne.symm e)];exact hj)
  refine⟨u,hu,?_⟩
  have:(md.set i 0).getD j 0=md.getD j 0:=by rw[bb,bb,gG (Ne.symm e)]
  rw[this];exact ow
end
section
variable {Z:DC} {X:Cx} {md:List Nat} {rn:Nat} {e:Expr} {pos:Pos}
def Lm(md:List Nat)(i:Nat)(t:gu)(u:cx):cx:=λE ρ=>t (cA md ρ) λds=>u {nx:=λaD=>(∃d,aD[i]? =some (some d))/\E.nx aD,rt:=E.rt} (ρ.set i (some (.lst ds)))
theorem qI{md:List Nat}{i j n:Nat}(h:j≠i):(md.set i n).getD j 0=md.getD j 0:=by rw[bb,bb,gG (Ne.symm h)]
theorem zQ{md:List Nat}{i n:Nat}(h:i<md.length):(md.set i n).getD i 0=n:=by rw[bb,gF h];rfl
theorem CQ(i n:Nat){x:Str}{pos':Pos}{t:gu}{rest:List Stmt}{u:cx}(hN:X.N.Nodup)(he:DF Z X n e t)(h:oK Z X (md.set i n) 0 rest u)(hmi:md.getD i 0=0:=by rfl)(QK:i<md.length:=by decide)(hi:X.N[i]? =some x:=by rfl)(hx:Loc X.env.scope x:=by first|exact Or.inl rfl|exact Or.inr rfl)(hs:swapsWith e (some (.Name x pos')) pos.line X.env=pure false:=by rfl)
  (hf:X.fn x=true\/X.env.scope.names.lookup x=some .local:=by first|exact .inl rfl|exact .inr rfl|assumption):oK Z X md 0 (.Assign [.Name x pos'] e pos::rest) (Lm md i t u):=by
 refine lj.imp (gX (jM hN hi hx he hs hf) h) ?_;rintro D σ H ⟨B,ρ,E,⟨G,fp,S⟩,h,M⟩;refine⟨G,_,_,S.ex.sub,S.mW,h,λds hd v f G' H' x o nd nw=>?_⟩;have S1:=S.grow x
 have S1':SIx Z B (md.set i n) (ρ.set i none) σ H' G' fp:=⟨S1.ex,S1.fl,by rw[cM];exact S1.len,λj d hj=>by
  by_cases z:j=i
  ·subst z
   rw[gM] at hj;rw[if_pos rfl] at hj
   split at hj<;>cases hj
  ·rw[gG (Ne.symm z)] at hj
   rw[qI z];exact S1.at_ j d hj,S1.nd,S1.ap,S1.nw⟩
 have S2:=S1'.Fp (zQ QK) o nd (λb hb=>⟨S.ex.hh.free (nw b hb).1,(nw b hb).2⟩) λb hb j _ hj=>(S.nw j b hj).2.1 (nw b hb).1;rw[List.set_set] at S2;refine⟨B,_,_,⟨G',_,S2⟩,hd,⟨?_,M.rt,λ_ z=>z.elim,λ_ z=>z.elim,λ_ _ z=>z.elim⟩⟩;rintro aD ⟨⟨d,jf⟩,hE⟩ aC uh ⟨G3,fp3,S3⟩;obtain⟨v3,hv3,Qe,S4⟩:=S3.An jf;refine M.nx aD hE _ _ ⟨_,_,⟨S4.ex,S4.fl,S3.len,λj c hj=>?_,S4.nd,S4.ap,S4.nw⟩⟩
 by_cases z:j=i
 ·subst z
  rw[jf] at hj;cases hj;refine⟨v3,hv3,?_⟩;rw[hmi,if_pos rfl];exact⟨Qe,rfl⟩
 ·obtain⟨u',hu,ow⟩:=S4.at_ j c (by rw[gG (Ne.symm z)];exact hj)
  rw[qI z] at ow;exact⟨u',hu,ow⟩
end
end L2
namespace lg
open PySem L2 Wb
variable {P:Program} {w:World} {mg:Str->Option Value} {base:Heap} {Z:DC} (T:Txt Z mg)
open Wy
def Hh:bP:=λds P=>∃(w:W)(R:List Nat),ds= [ay w,av R]/\Gd w R/\w.length<=7/\∀v,j3 v->v.length<=8->P (ay v)
theorem uv:FnOk P w Z.K mg base bB 1 T.d__law_closed.f T.d__law_closed.fd ["_law_turns","_law_ring"] (aF Z Hh):=by
 have nd:=mj.nd;refine aP T.d__law_closed.F mj [0,0,0,0] (by decide) (λds R h=>by obtain⟨_,_,rfl,_⟩:=h;rfl) (λbc A outer s H E ds R hr h=>?_)
 have hu:=hr.units
 refine⟨_,(af (bh (aK vZ (aA aX rfl T.B.len aW (ab (aa 1) ae)) ao (aR _)) (af (aH true 2 nd (aA aX rfl T.B.len aW (ab (aa 0) ae)))
   (CQ 0 1 nd (om (aa 0) (di (ab (tO rfl rfl T.B.list rfl T.B.reversed (ab (aa 1) ae)) ae)))
   (af (gQ 0 (aJ (aa 1) ao) (om (di (ab (aa 2) ae)) (aJ (aa 0) (aJ (aa 1) ao))))
   (ai (cu rfl PassesOwn.never (bG (cR (aa 1) (cY ao) cX)) (aG 3 nd) (ai (gQ 0 (aa 3) (om (aJ (aa 0) (aa 3)) (di (ab (aa 2) ae)))))))))) aO) (ai (aE (aa 0)))),?_⟩
 obtain⟨w',R',rfl,⟨Gr,Cc,Dg⟩,h7,q⟩:=h;have h3:=Gr.len;have hrs:=Gr.RJ;have lR:(R'.map ag).length=R'.length:=aI _;have lw:(w'.map av).length=w'.length:=aI _;refine⟨_,rfl,?_⟩;dsimp only[cW,eN,av];refine⟨_,rfl,bN (λe=>?_) (λe=>?_)⟩
 ·have e:=of_decide_eq_true e
  have hl:3<R'.length:=by omega
  refine⟨_,rfl,?_⟩;dsimp only[cW,eN,ay];refine⟨rfl,?_⟩;obtain⟨f',hf⟩:∃f',R'.length=f'+2:=⟨R'.length-2,by omega⟩
  have tk:R'.take (f'+1+1)=R':=Fz (by omega)
  refine⟨_,rfl,_,rfl,_,rfl,by show 1<=sizeLine;decide,_,rfl,small (by rw[lw];show _+1<=1000;omega),?_⟩
  have Kh:R'.getD 0 0<w'.length:=Gr.Ko (bw (by omega))
  have a0:gv (R'.map ag) (0:Int)=some (ag (R'.getD 0 0)):=jo (ns:=R') (p:=0) (by omega)
  have lw1:(w'++ [R'.reverse]).length=w'.length+1:=by simp
  have a1:=ck (w:=w'++ [R'.reverse]) (p:=R'.getD 0 0) (by omega)
  rw[kM,if_neg (by omega)] at a1
  have rl0:=e9 Gr.g (R'.getD 0 0)
  refine fB [some (ay (w'++ [R'.reverse])),some (av R'),some (.int (w'.length:Int)),none] (by
   rw[lw];unfold ay av;rw[fc,<-List.map_reverse];rfl) ?_
  refine⟨_,rfl,by show 1<=sizeLine;decide,_,rfl,_,rfl,_,rfl,_,a0,_,a1,_,rfl,small (by rw[aI];show 1+_<=1000;omega),?_,_,rfl,_,rfl,_,a0,_,R'.getD 0 0,rfl,bU (by rw[aI];omega),?_⟩
  ·rw[wX,bQ];rfl
  have d0:f7 ((w'++ [R'.reverse]).set (R'.getD 0 0) (w'.length::row w' (R'.getD 0 0)))=f7 w'+(f'+2)+1+0:=by
   have:=mT (r:=w'.length::row w' (R'.getD 0 0)) (w:=w'++ [R'.reverse]) (p:=R'.getD 0 0) (by omega)
   rw[kM,if_neg (by omega),yg,zr,hf,dD] at this
   omega
  have M0:=u0.start (w:=w') (R:=R') (f:=f'+1) Kh;rw[tk] at M0
  have cd:cutD (R'.map ag) (some (1:Int)) none=(R'.drop 1).map ag:=by
   have:=fY (R'.map ag) 1 (by rw[lR];omega)
   rw[sg];exact this
  have ld:(R'.drop 1).length=f'+1:=by rw[kY];omega
  refine⟨_,rfl,?_⟩;refine(?_:lY _ _ _ (cutD (R'.map ag) (some (1:Int)) none) _);rw[cd];refine bJ (λk ρ=>∃(w2:W)(o3:Option D),ρ= [some (ay w2),some (av R'),some (.int (w'.length:Int)),o3]/\u0 w' w2 R' (f'+1) k/\f7 w2=f7 w'+(f'+2)+1+k) ⟨(w'++ [R'.reverse]).set (R'.getD 0 0) (w'.length::row w' (R'.getD 0 0)),none,?_,M0,d0⟩ ?_ ?_
  ·unfold ay
   rw[<-dH];rfl
  ·rintro k d _ hd ⟨w2,p8,rfl,M,dM⟩ A' zT
   obtain⟨y,hy,rfl⟩:=bZ hd
   have hk:k<f'+1:=by
    have:=(cT.mp hy).1
    omega
   have ey:y=R'.getD (k+1) 0:=by
    rw[Cs] at hy;rw[bb,Nat.add_comm k 1,hy];rfl
   subst ey;have R4:R'.getD (k+1) 0<w'.length:=Gr.Ko (bw (by omega))
   have l2:=M.l;have a2:=ck (w:=w2) (p:=R'.getD (k+1) 0) (by omega)
   have rl:(row w2 (R'.getD (k+1) 0)).length<=14:=by
    rw[M.ro _ (by omega) (λi hi e=>by have:=getD_inj Gr.nd (by omega) (by omega) e;omega)]
    have:=e9 Gr.g (R'.getD (k+1) 0)
    omega
   refine⟨_,rfl,_,rfl,_,a2,_,rfl,_,rfl,by show 1<=sizeLine;decide,_,rfl,small (by rw[aI];show _+1<=1000;omega),?_,_,rfl,_,rfl,_,R'.getD (k+1) 0,rfl,bU (by rw[aI];omega),?_⟩
   ·rw[wX,bQ];rfl
   refine zT _ ⟨w2.set (R'.getD (k+1) 0) (row w2 (R'.getD (k+1) 0)++ [w'.length]),some (ag (R'.getD (k+1) 0)),?_,M.step Gr.nd (by omega) (by omega) R4,by
    have:=mT (r:=row w2 (R'.getD (k+1) 0)++ [w'.length]) (w:=w2) (p:=R'.getD (k+1) 0) (by omega)
    rw[dG,xg] at this
    omega⟩
   have Qh:(.lst ((w2.map av).set (R'.getD (k+1) 0) (.lst ((row w2 (R'.getD (k+1) 0)).map ag++ [.int (w'.length:Int)]))):D)=ay (w2.set (R'.getD (k+1) 0) (row w2 (R'.getD (k+1) 0)++ [w'.length])):=by
    unfold ay;rw[<-dH];unfold av;rw[fc];rfl
   rw[<-Qh];rfl
  ·rintro _ ⟨w2,p8,rfl,M,dM⟩
   rw[aI,ld] at M dM;have St:=M.fin (by omega) (by omega)
   have G2:=ua Gr St;have rl:=(lL Gr St).len;have l2:=M.l;exact⟨⟨_,rfl⟩,_,rfl,q _ (G2.Vn (zg Gr St Cc) (by omega) (by omega)) (by omega)⟩
 ·have e:=of_decide_eq_false e
  exact⟨_,rfl,q _ (Gr.Vn Cc Dg (by omega)) (by omega)⟩
variable {P:Program} {w:World} {mg:Str->Option Value} {base:Heap} {Z:DC} (T:Txt Z mg)
structure NR (w F:W) (ns:List Nat) (k:Nat):Prop where
 l:F.length=w.length
 r:∀i,i<k->∃a b,row w i=a++b/\row F (ns.getD i 0)=(b++a).map λx=>ns.getD x 0
theorem NR.step{w F:W}{ns:List Nat}{k a:Nat}(h:NR w F ns k)(N:zv w.length ns)(hk:k<w.length):NR w (F.set (ns.getD k 0) (((row w k).drop a++(row w k).take a).map λx=>ns.getD x 0)) ns (k+1):=by
 have lt:ns.getD k 0<F.length:=by rw[h.l];exact N.2.2 _ (bw (by rw[N.1];exact hk))
 refine⟨by rw[cM];exact h.l,λi hi=>?_⟩
 by_cases c:i=k
 ·subst c
  exact⟨(row w i).take a,(row w i).drop a,(zp _ _).symm,by rw[rH lt,if_pos rfl]⟩
 ·obtain⟨x,y,e1,e2⟩:=h.r i (by omega)
  exact⟨x,y,e1,by rw[rH lt,if_neg (λz=>c (getD_inj N.2.1 (by rw[N.1];omega) (by rw[N.1];omega) z.symm)),e2]⟩
theorem NR.RF{w F:W}{ns:List Nat}(h:NR w F ns w.length)(N:zv w.length ns):ui w F λx=>ns.getD x 0 where
 len:=h.l
 lt:=λx hx=>N.2.2 _ (bw (by rw[N.1];exact hx))
 inj:=λx y hx hy e=>getD_inj N.2.1 (by rw[N.1];exact hx) (by rw[N.1];exact hy) e
 onto:=λy hy=>by
  obtain⟨i,hi,e⟩:=jB.mp (vV N hy);exact⟨i,by rw[N.1] at hi;exact hi,by rw[bb,bL hi];exact e⟩
 rows:=λx hx=>h.r x hx
def B6:bP:=λds P=>∃(w:W)(num:Int),ds= [ay w, .int num]/\j3 w/\w.length<=8/\∀F,j3 F->F.length=w.length->P (ay F)
theorem v9:FnOk P w Z.K mg base bB 1 T.d__law_named.f T.d__law_named.fd ["_law_turns","_law_number"] (aF Z B6):=by
 have nd:=nK.nd;refine aP T.d__law_named.F nK [0,0,1,0,1,0,0] (by decide) (λds R h=>by obtain⟨_,_,rfl,_⟩:=h;rfl) (λbc A outer s H E ds R hr h=>?_)
 have hu:=hr.units
 refine⟨_,(af (hJ 2 nd (eo ae))
   (af (vx rfl PassesOwn.never (vv rfl T.B.range (ab (aA aX rfl T.B.len aW (ab (aa 0) ae)) ae)) (aG 3 nd) (af (LB false 2 (az cv (aa 1) (az ba (aa 3) ao)) (aa 3))
   (ai (aH false 1 nd (az eY (aa 1) (az ba (aa 3) ao))))))
   (af (sE 4 (NC:= ["_law_row"]) (src:= [none]) rfl nd (lB (aq fP)) trivial (bG (aa 0)) (λ_ _ _=>(bF 0 (show(["_law_row"]:List Str).Nodup from by decide+kernel))) (λ_ _ _=>cZ) (λ_ _ _=>(di ae)))
   (af (cu rfl PassesOwn.never (eC rfl T.B.enumerate (ab (aa 0) ae)) (eu 2 rfl (aN (aG 3 nd) (aN (aG 5 nd) b7))) (af (aH false 6 nd (az cv (aa 1) (aA (AQ rfl) rfl T.B.max EI (ab ao (ab (aA aX rfl T.B.len aW (ab (aa 5) ae)) ae)))))
   (af (aH false 1 nd (az eY (aa 1) (aA (AQ rfl) rfl T.B.max EI (ab ao (ab (aA aX rfl T.B.len aW (ab (aa 5) ae)) ae)))))
   (ai (gQ 4 (aJ (aa 2) (aa 3)) (Ig (NC:= ["_law_other","_law_names"]) (src:= [none,some 2]) rfl (lB (aq fP)) ⟨rfl,rfl,trivial⟩ (bG (az ba (cR (aa 5) (cY (aa 6)) cX) (cR (aa 5) cX (cY (aa 6))))) (λ_ _ _=>(bF 0 (show(["_law_other","_law_names"]:List Str).Nodup from by decide+kernel))) (λ_ _ _=>cZ) (λ_ _ _=>(aJ (aa 1) (aa 0)))))))))
   (ai (aE (aa 4))))))),?_⟩
 obtain⟨w',num,rfl,Fl,h8,q⟩:=h;have g:=Fl.g;have h3:=Fl.n3;have lw:(w'.map av).length=w'.length:=aI _;refine⟨by show 0<=sizeLine;decide,?_⟩
 refine⟨_,rfl,⟨by omega,by show((w'.map av).length:Int)<2^62;omega⟩,?_⟩
 rw[show(((w'.map av).length:Int)).toNat=w'.length by omega]
 refine yz (λj ρ=>∃(y:Int)(ns:List Nat)(o4 o5 o6 o7:Option D),ρ= [some (ay w'),some (.int y),some (av ns),o4,o5,o6,o7]/\zv j ns) ⟨num,[],_,_,_,_,rfl,rfl,iL,λx h=>by cases h⟩ ?_ ?_
 ·rintro j _ hj ⟨y,ns,o4,o5,o6,o7,rfl,hl,nd,lt⟩ A hA
  have mq:=gU y ((j:Int)+1) (by omega)
  have lr:(ns.map ag).length=j:=by rw[aI,hl]
  refine⟨_,rfl,_,rfl,_,rfl,by show(0:Int)<(j:Int)+1;omega,_,rfl,_,rfl,trivial,⟨mq.1,by rw[lr];show y%((j:Int)+1)<=_;omega,fw (by rw[lr];omega)⟩,?_⟩
  refine⟨_,rfl,_,rfl,⟨by show(0:Int)<(j:Int)+1;omega,by show(j:Int)+1<1073741824;omega⟩,trivial,?_⟩
  refine hA _ ⟨y / ((j:Int)+1),ins ns (y%((j:Int)+1)).toNat j,some (ag j),o5,o6,o7,?_,by rw[Bp,hl],DS nd (λz=>by have:=lt j z;omega),λx hx=>?_⟩
  ·unfold av;rw[<-Gu];rfl
  ·rcases Jw.mp hx with rfl|hx
   ·omega
   ·have:=lt x hx;omega
 ·rintro _ ⟨y,ns,o4,o5,o6,o7,rfl,N⟩
  refine⟨_,rfl,fU (ρ:= [none]) av (λ_=> .lst []) w' _ (λy hy Y h=>⟨by show 0<=sizeLine;decide,h⟩) rfl (small (by omega)) λaD=>?_⟩
  have e0:(.lst (w'.map λ_=>(.lst []:D)):D)=ay (w'.map λ_=> []):=by unfold ay;rw[dX];rfl
  refine(?_:lX _ _ _ [some (ay w'),some (.int y),some (av ns),o4,some (.lst (w'.map λ_=>(.lst []:D))),o6,o7]);rw[e0];refine⟨_,rfl,bJ (λk ρ=>∃(y:Int)(F:W)(o4 o6 o7:Option D),ρ= [some (ay w'),some (.int y),some (av ns),o4,some (ay F),o6,o7]/\NR w' F ns k) ⟨_,_,_,_,_,rfl,by simp,λi h=>by omega⟩ ?_ ?_⟩
  ·rintro k d _ hd ⟨y,F,p4,p6,p7,rfl,nr⟩ A hA
   obtain⟨d',hy,rfl⟩:=f9 hd;obtain⟨r,Bk,rfl⟩:=bZ hy;have hk:k<w'.length:=(cT.mp Bk).1;have er:row w' k=r:=Fm Bk
   have aaB:0<r.length:=by
    have:=g.Ao (by omega) hk
    rw[er] at this;exact Cr.mpr this
   have rl:=e9 g k;rw[er] at rl;have lr:(r.map ag).length=r.length:=aI _;have e1:(0:Int)<((r.map ag).length:Int):=by rw[lr];omega
   refine⟨rfl,rfl,?_⟩;have mx:(if ((r.map ag).length:Int)>1 then((r.map ag).length:Int) else 1)=((r.map ag).length:Int):=by split<;>omega
   refine⟨_,rfl,_,rfl,?_⟩;dsimp only[cW,eN,av];refine⟨_,_,rfl,?_⟩;rw[mx];refine⟨e1,trivial,?_⟩;refine⟨_,rfl,_,rfl,?_⟩;dsimp only[cW,eN,av];refine⟨_,_,rfl,?_⟩;rw[mx];refine⟨⟨e1,by rw[lr];omega⟩,trivial,?_⟩
   have m1:=gU y ((r.map ag).length:Int) e1;refine vY [some (ay w'),some (.int (y / ((r.map ag).length:Int))),some (av ns),some (ag k),some (ay F),some (av r),some (.int (y%((r.map ag).length:Int)))] rfl ?_;generalize LJ:y%((r.map ag).length:Int)=at_ at m1;obtain⟨a,rfl⟩:∃a:Nat,at_=(a:Int):=⟨at_.toNat,by omega⟩
   rw[lr] at m1;have ca:cutD (r.map ag) (some (a:Int)) none=(r.drop a).map ag:=by rw[fY _ _ (by rw[lr];omega),sg]
   have cb:cutD (r.map ag) none (some (a:Int))=(r.take a).map ag:=by rw[fZ _ _ (by rw[lr];omega),r9]
   have l2:(r.drop a++r.take a).length=r.length:=by rw[dG,kY,fj];omega
   have xY:(cutD (r.map ag) (some (a:Int)) none).length+(cutD (r.map ag) none (some (a:Int))).length<=sizeLine:=by
    rw[ca,cb,aI,aI];exact small (by rw[dG] at l2;omega)
   refine⟨_,rfl,_,rfl,_,rfl,_,rfl,xY,?_⟩;refine(?_:lcW _ _ _ (cutD (r.map ag) (some (a:Int)) none++cutD (r.map ag) none (some (a:Int))) _ _ _);rw[ca,cb,<-fc];refine fU (ρ:= [none,some (av ns)]) ag (λo=>ag (ns.getD o 0)) (r.drop a++r.take a) _ (λo ho Y hY=>?_) rfl (small (by omega)) λaD=>?_
   ·have:o∈r:=by
     have:o∈r.take a++r.drop a:=List.perm_append_comm.mem_iff.mp ho
     rw[zp] at this;exact this
    have dZ:o<ns.length:=by rw[N.1];exact g.rng k o (by rw[er];exact this)
    exact⟨_,rfl,_,rfl,_,jo dZ,hY⟩
   ·have VU:k<ns.length:=by rw[N.1];exact hk
    have nlt:ns.getD k 0<F.length:=by rw[nr.l];exact N.2.2 _ (bw VU)
    refine⟨?_,_,rfl,_,rfl,_,rfl,_,jo VU,_,ns.getD k 0,rfl,bU (by rw[aI];exact nlt),?_⟩
    ·rw[List.all_map,jZ];intro x _;rfl
    ·have Xk:=nr.step (a:=a) N hk
     rw[er] at Xk;refine hA _ ⟨y / ((r.map ag).length:Int),_,some (ag k),some (av r),some (.int (a:Int)),?_,Xk⟩
     have es:(.lst ((F.map av).set (ns.getD k 0) (.lst ((r.drop a++r.take a).map λo=>ag (ns.getD o 0)))):D)=ay (F.set (ns.getD k 0) ((r.drop a++r.take a).map λx=>ns.getD x 0)):=by
      unfold ay;rw[<-dH];unfold av;rw[dX];rfl
     rw[<-es];rfl
  ·rintro _ ⟨y,F,p4,p6,p7,rfl,nr⟩
   rw[gR,lw] at nr;have Rn:=nr.RF N;have pm:ns.Perm (List.range w'.length):=(Cn N.2.1 List.nodup_range).mpr λx=>⟨λh=>eJ.mpr (N.2.2 x h),λh=>vV N (eJ.mp h)⟩;exact⟨_,rfl,q F (Fl.RF pm Rn) nr.l⟩
end lg
namespace L2
open PySem PySem.Spec PyProof.Rows
abbrev uX:=DN->(List (List D)->Prop)->Prop
def Md(Z:DC)(t:uX):TA:=λσ H Q=>∃(G:Hp)(ρ:DN)(P:List (List D)->Prop),aM G H/\dN Z G σ ρ/\t ρ P/\∀Xc,P Xc->∀vs fs G' H',Ext G H G' H'->bT (Own Z G' H' 1) vs (Xc.map D.lst) fs->fs.Nodup->(∀b∈fs,H b=none/\H' b≠none/\G' b=none)->Q vs H'
def K8(Z:DC)(X:Cx)(es:List Expr)(t:uX):Prop:=PA X es (Md Z t)
section
variable {Z:DC} {X:Cx} {md:List Nat} {rn:Nat} {e k k2:Expr} {es:List Expr} {pos:Pos} {te tk tp:aY} {t:gu} {u:uX}
def Qm:uX:=λ_ P=>P []
def LH(t:gu)(u:uX):uX:=λρ P=>t ρ λl=>u ρ λls=>P (l::ls)
theorem vt:K8 Z X [] Qm:=dO.imp λσ H Q ⟨G,ρ,P,s,en,h,q⟩=>q [] h [] [] G H (.refl s) .nil iL λb hb=>by cases hb
theorem gj(ha:DF Z X 1 e t)(hb:K8 Z X es u)(hs:starEach (e::es) X.env=(false,eval e X.env)::starEach es X.env:=by rfl):K8 Z X (e::es) (LH t u):=by
 refine(bV ha hb hs).imp ?_;rintro σ H Q ⟨G,ρ,P,s,en,h,q⟩;refine⟨G,ρ,_,s,en,h,λl1 h1 v1 f1 G1 H1 x1 o1 DR vX=>?_⟩;refine⟨G1,ρ,_,x1.sub,en.mono x1.gg,h1,λls h2 vs fs G2 H2 x2 o2 nh xQ=>?_⟩;refine q _ h2 _ (f1++fs) G2 H2 (x1.trans x2) (.cons (o1.keep x2.gg λb hb=>?_) o2) ?_ ?_
 ·cases z:H1 b with
  |none=>exact absurd z (vX b hb).2.1
  |some o=>exact x2.hh _ _ z
 ·rw[gN]
  refine⟨DR,nh,λa ha b hb z=>?_⟩;subst z;exact(vX a ha).2.1 (xQ a hb).1
 ·intro b hb
  rcases fR.mp hb with hb|hb
  ·exact⟨(vX b hb).1,eH x2.hh (vX b hb).2.1,x2.off b (vX b hb).2.1 (vX b hb).2.2⟩
  ·exact⟨x1.hh.free (xQ b hb).1,(xQ b hb).2⟩
def Ql(u:uX):gu:=λρ P=>u ρ λls=>ls.length<=sizeLine/\P (ls.map D.lst)
theorem vq(ha:K8 Z X es u):DF Z X 2 (.List es pos) (Ql u):=by
 refine(lJ ha).imp ?_;rintro σ H Q ⟨G,ρ,P,s,en,h,q⟩;refine⟨G,ρ,_,s,en,h,λls hl vs fs G1 H1 x1 o nd nw=>?_⟩;have le:=o.length;rw[aI] at le;refine⟨by rw[le];exact hl.1,λp hp=>?_⟩
 have np:∀b∈fs,b≠p:=λb hb z=>(nw b hb).2.1 (by rw[z];exact hp)
 refine q _ hl.2 (.ref p) (p::fs) G1 _ (x1.side hp) (.inl ⟨p,vs,_,_,rfl,rfl,au,rfl,o.imp λv d f hf od=>od.keep (.refl _) λb hb=>aw (np b (hf b hb))⟩) ?_ ?_
 ·exact eI.mpr ⟨λz=>np p z rfl,nd⟩
 ·intro b hb
  rcases cD.mp hb with rfl|hb
  ·exact⟨x1.hh.free hp,(by rw[au];exact λz=>nomatch z),x1.sub.free hp⟩
  ·exact⟨(nw b hb).1,(by rw[aw (np b hb)];exact(nw b hb).2.1),(nw b hb).2.2⟩
def Lr(md:List Nat)(m:Bool)(i:Nat)(tp tk te:aY):cx:=λE ρ=>te (Cj md m ρ) λd=>oF m d/\∃jC,ρ[i]? =some (some (.lst jC))/\tp ρ λpp=>∃p j ds,pp= .int p/\jD jC.length p=some j/\jC[j]? =some (.lst ds)/\tk ρ λkk=>∃q r,kk= .int q/\jD ds.length q=some r/\E.nx (ρ.set i (some (.lst (jC.set j (.lst (ds.set r d))))))
theorem yh(m:Bool)(i:Nat){x:Str}{px ps D8:Pos}(hp:DE Z X k tp)(hk:DE Z X k2 tk)(he:DE Z X e te)(hm:md.getD i 0=2:=by rfl)(Dd:u5 k:=by exact λ_ _=>rfl)(hi:X.N[i]? =some x:=by rfl)(hv:j5 X.env.scope x:=by first|exact Or.inl rfl|exact Or.inr (Or.inl rfl) |exact Or.inr (Or.inr rfl))(hd:(x==("__debug__":Str))=false:=by decide)(dh:(x==("__classdict__":Str))=false:=by decide)
  (ha:∀v,assign (.Subscript (.Subscript (.Name x px) k ps) k2 D8) X.env v=(do
   let ov <-holding [v] (eval (.Subscript (.Name x px) k ps) X.env)
   let iv <-holding [v,ov] (eval k2 X.env)
   standAt D8
   holding [v,ov,iv] (setItem ov iv v)
   release [v,ov,iv] []):=by intro _;rfl)
  (hs:swapsWithSole [.Subscript (.Subscript (.Name x px) k ps) k2 D8] e pos.line X.env=pure false:=by rfl) (hw:swappedStores [.Subscript (.Subscript (.Name x px) k ps) k2 D8] e X.env=pure none:=by rfl)
  (h1:(assignEach [.Subscript (.Subscript (.Name x px) k ps) k2 D8] X.env).map (·.2)= [assign (.Subscript (.Subscript (.Name x px) k ps) k2 D8) X.env]:=by rfl):DSt Z X md rn (.Assign [.Subscript (.Subscript (.Name x px) k ps) k2 D8] e pos) (Lr md m i tp tk te):=by
 refine(oJ he (rz (JX Bu (pv i hi hv hd dh) hp Dd) hk set_list ha) hs hw h1).imp ?_;intro D σ H aL;rfl';obtain⟨B,ρ,E,⟨G,fp,S⟩,h,M⟩:=aL;ac_rfl;refine S.ev m h λd hd=>⟨hd.1,λv G1 H1 S1 x1 dv=>?_⟩;rfl';obtain⟨_,jC,h1,h⟩:=hd;obtain⟨v0,jh,o⟩:=S1.at_ i _ h1;ac_rfl;refine⟨_,jh,S1.ev true h ?_⟩;rintro _ ⟨p,j,ds,rfl,hj,hd2,h⟩;refine⟨rfl,λv1 G2 H2 S2 x2 sH=>?_⟩;rfl';cases sH.ofInt;obtain⟨T,ys,l,xs,fM,e1,e2,e3,e4,e5,e6,bu,_⟩:=S2.two hm h1 hd2;rw[e2] at jh;cases jh;ac_rfl;refine⟨T,ys,p, .ref l,rfl,rfl,bX.of e3,Lg e4 hj e5,S2.ev true h ?_⟩;rintro _ ⟨q,r,rfl,hr,hn⟩;refine⟨rfl,λv2 G3 H3 S3 x3 qC=>?_⟩;rfl';cases qC.ofInt;obtain⟨T',ys',l',g7,Vc,Qf,ig,zJ,e4',Ve,e6',Oy,put⟩:=S3.two hm h1 hd2;cases Qf;ac_rfl;rw[e2] at ig;cases ig
 have:ys'=ys:=by
  have:=x3.hh _ _ e3
  rw[zJ] at this;cases this;rfl
 rw[this,e5] at Ve;cases Ve;exact⟨l,g7,q,r,rfl,rfl,e6',by rw[Oy.length];exact hr,M.nx _ hn _ _ ⟨G3,fp,put _ _ (Oy.set ((dv.mono x2.gg).mono x3.gg) r)⟩⟩
end
open Classical in
noncomputable def pS(H:Hp)(f:List Addr):Hp:=λb=>if b∈f then none else H b
theorem kH{H:Hp}{f:List Addr}{b:Addr}(h:b∉f):pS H f b=H b:=if_neg h
theorem yH{H:Hp}{f:List Addr}{b:Addr}(h:b∈f):pS H f b=none:=if_pos h
theorem Bw{H:Hp}{f:List Addr}:aM (pS H f) H:=λb o e=>by
 by_cases z:b∈f
 ·rw[yH z] at e;cases e
 ·rw[kH z] at e;exact e
def qR(Z:DC)(n:Nat)(sd:bP):Sp:=λvs H Q _=>∃(G:Hp)(v:V)(us:List V)(f0:List Addr)(d:D)(ds:List D)(P:D->Prop),vs=v::us/\aM G H/\Own Z G H n v d f0/\f0.Nodup/\(∀b∈f0,H b≠none/\G b=none)/\DvAll Z G us ds/\sd (d::ds) P/\
 ∀d',P d'->∀v' f G' H',Ext G (pS H f0) G' H'->Own Z G' H' n v' d' f->f.Nodup->(∀b∈f,pS H f0 b=none/\H' b≠none/\G' b=none)->Q v' H'
section
variable {P:Program} {w:World} {K:PySem.W.Frag} {mg:Str->Option Value} {base:Heap} {Z:DC}
theorem yu(rn:Nat){x qual:Str}{st:Stmt}{f:Addr}{fd:FuncData}{N ps:List Str}{k:Nat}{sd:bP}(F:uZ K x qual st f fd)(S:aB N ps (aq st))(md:List Nat)(IW:∀i,0<i->i<ps.length->md.getD i 0=0)(hm0:md.getD 0 0=rn)(len:∀ds P,sd ds P->ds.length=ps.length)
  (lE:∀(bc:Value)(A:Around)(outer:List Env)(s:Shared)(H:Hp)(E:XK)(ds:List D)(R:D->Prop),cn k (A.deeper (envOfC qual (aq st) s.heap.objs.size f bc))->sd ds R->
   ∃t,oK Z (qu bB P w K mg base N qual (aq st) f bc A outer s H E).jE md rn (ft st) t/\t {nx:=λ_=>False,rt:=R} (lQ N ds)):FnOk P w K mg base bB (k+1) f fd ps (qR Z rn sd):=by
 refine F.ok S (λvs H Q E h=>?_) (λbc A outer s H vs Q E hr h=>?_)
 ·obtain⟨G,v,us,f0,d,ds,R,rfl,_,_,_,_,dv,h,_⟩:=h
  have:=len _ _ h
  rw[dD] at this ⊢;rw[dv.length];exact this
 obtain⟨G,v,us,f0,d,ds,R,rfl,s0,ow,nd0,nw0,dv,h,q⟩:=h;obtain⟨t,ht,hq⟩:=lE bc A outer s H E _ R hr h;have hl:=len _ _ h;rw[dD] at hl;have lu:us.length=ds.length:=dv.length;refine⟨_,ht,⟨G,pS H f0,G⟩,_,_,⟨G,λi=>if i=0 then f0 else[],?_⟩,hq,⟨λ_ z=>z.elim,q,λ_ z=>z.elim,λ_ z=>z.elim,λ_ _ z=>z.elim⟩⟩;refine⟨⟨.refl _,s0,Bw,λ_ _ h=>h⟩, .refl _,by unfold lQ start;simp[dv.length],λi d' hi=>?_,λi=>?_,(λi j b ne hi hj=>?_),(λi b hb=>?_)⟩
 ·unfold lQ at hi
  have xK:i<(d::ds).length:=by
   apply Classical.byContradiction;intro z;rw[iH (by simpa using gH z),n6] at hi
   split at hi<;>cases hi
  rw[gE (by simpa using xK),cL] at hi
  have jf:(d::ds)[i]? =some d':=by
   cases z:(d::ds)[i]? with
   |none=>rw[z] at hi;cases hi
   |some d'=>rw[z] at hi;cases hi;rfl
  have st:∀u,(v::us)[i]? =some u->(start N (v::us))[i]? =some (some u):=λu hu=>by
   unfold start;have hiu:i<(v::us).length:=(cT.mp hu).1;rw[gE (by simpa using hiu),cL,hu];rfl
  match i with
  |0=>
   cases jf;refine⟨v,st v rfl,?_⟩;rw[hm0,if_pos rfl];exact ow
  |i+1=>
   obtain⟨u,hu,du⟩:=dv.get jf;refine⟨u,st u hu,?_⟩;rw[IW (i+1) (by omega) (by rw[<-hl];exact xK),if_neg (by omega)]
   exact⟨du,rfl⟩
 ·split
  ·exact nd0
  ·exact iL
 ·split at hi
  ·split at hj
   ·omega
   ·cases hj
  ·cases hi
 ·split at hb
  ·exact⟨yH hb,nw0 b hb⟩
  ·cases hb
end
section
variable {Z:DC} {X:Cx} {md:List Nat} {rn:Nat} {e:Expr} {es:List Expr} {pos aS:Pos} {t:gq} {tf:gu}
def PZ(md:List Nat)(i:Nat)(sd:bP)(t:gq):cx:=λE ρ=>∃d,ρ[i]? =some (some d)/\t (cA md ρ) λds=>sd (d::ds) λd'=>E.nx (ρ.set i (some d'))
theorem A2(i n:Nat){sd:bP}{k j:Nat}{x f:Str}{st:Stmt}{ps:List Str}{px py p:Pos}(hN:X.N.Nodup)(d:cV X.K X.mg f st ps)(F:FnOk X.prog X.w X.K X.mg X.base bB k d.f d.fd ps (qR Z n sd))(hr:cn j X.A)(ha:DA Z X es t)(hg:Gl X f:=by rfl)(hk:k<=j:=by first|decide|omega)(ik:(f==("__debug__":Str))=false:=by decide)
  (m8:starEach (.Name x py::es) X.env=(false,eval (.Name x py) X.env)::starEach es X.env:=by rfl) (eF:(backTo aS (starEach es X.env)).any (·.1)=false:=by rfl) (j6:swapsWith (.Call (.Name f p) (.Name x py::es) [] aS) (some (.Name x px)) pos.line X.env=pure false:=by rfl)
  (hm:md.getD i 0=n:=by rfl) (hi:X.N[i]? =some x:=by rfl) (hx:Loc X.env.scope x:=by first|exact Or.inl rfl|exact Or.inr rfl) (hv:j5 X.env.scope x:=by first|exact Or.inl rfl|exact Or.inr (Or.inl rfl) |exact Or.inr (Or.inr rfl)) (hd:(x==("__debug__":Str))=false:=by decide) (dh:(x==("__classdict__":Str))=false:=by decide)
  (hf:X.fn x=true\/X.env.scope.names.lookup x=some .local:=by first|exact .inl rfl|exact .inr rfl|assumption):
  DSt Z X md rn (.Assign [.Name x px] (.Call (.Name f p) (.Name x py::es) [] aS) pos) (PZ md i sd t):=by
 refine(jM hN hi hx (rm F (hr.mono hk) hg d.m d.F.kp d.b .nil qa (bV (pv i hi hv hd dh) ha m8) ik m8 eF) j6 hf).imp ?_;intro D σ H aL;rfl';obtain⟨B,ρ,E,⟨G,fp,S⟩,⟨d0,h1,h⟩,M⟩:=aL;obtain⟨v0,jh,_⟩:=S.at_ i _ h1;ac_rfl;refine⟨_,jh,G,_,_,S.ex.sub,S.mW,h,λds hd us G1 H1 x1 dus=>?_⟩;have S1:=S.grow x1;obtain⟨v1,Jb,o⟩:=S1.at_ i _ h1;rw[jh] at Jb;cases Jb;rw[hm] at o;refine⟨G1,v0,us,fp i,d0,ds,_,by rw[pD],x1.sub,o,S1.nd i,λb hb=>(S1.nw i b hb).2,dus,hd,λd' jf v' f' G2 H2 x2 o2 nh xQ=>?_⟩
 have off:∀b,B.H₀ b≠none->b∉fp i:=λb hb z=>hb (S1.nw i b z).1;have Ds:∀j b,j≠i->b∈fp j->pS H1 (fp i) b=H1 b:=λj b ne hb=>kH (S1.ap j i b ne hb);refine M.nx _ jf _ _ ⟨G2,λj=>if j=i then f' else fp j,⟨S1.ex.gg.trans x2.gg,x2.sub,λb o' e=>x2.hh _ _ (by rw[kH (off b (by rw[e];exact λz=>nomatch z))];exact S1.ex.hh _ _ e),λb hb hg=>x2.off b (by rw[kH (off b hb)];exact eH S1.ex.hh hb) (S1.ex.off b hb hg)⟩,S1.fl.trans x2.gg,by rw[cM,cM];exact S1.len,λj c hj=>?_,λj=>?_,λj l b ne hj hl=>?_,λj b hb=>?_⟩
 ·by_cases z:j=i
  ·subst z
   have VQ:j<ρ.length:=(cT.mp h1).1;rw[gF VQ] at hj;cases hj;refine⟨v',by rw[gF (by rw[<-S1.len];exact VQ)],?_⟩
   rw[hm,if_pos rfl];exact o2
  ·rw[gG (Ne.symm z)] at hj
   obtain⟨u,hu,ou⟩:=S1.at_ j c hj;refine⟨u,by rw[gG (Ne.symm z)];exact hu,?_⟩
   rw[if_neg z];refine ou.keep x2.gg λb hb=>?_;cases e:H1 b with
   |none=>exact absurd e (S1.nw j b hb).2.1
   |some o'=>exact x2.hh _ _ (by rw[Ds j b z hb];exact e)
 ·split
  ·exact nh
  ·exact S1.nd j
 ·have key:∀j b,j≠i->b∈fp j->b∉f':=λj b ne hb z=>by
   have:=(xQ b z).1
   rw[Ds j b ne hb] at this;exact(S1.nw j b hb).2.1 this
  split at hj
  ·next z=>
   rw[if_neg (λw=>ne (z.trans w.symm))] at hl;exact key l b (λw=>ne (z.trans w.symm)) hl hj
  ·next z=>
   split at hl
   ·exact key j b z hj hl
   ·exact S1.ap j l b ne hj hl
 ·split at hb
  ·obtain⟨q1,q2,q3⟩:=xQ b hb
   refine⟨?_,q2,q3⟩
   by_cases z:b∈fp i
   ·exact(S1.nw i b z).1
   ·rw[kH z] at q1
    exact S1.ex.hh.free q1
  ·next z=>
   obtain⟨q1,q2,q3⟩:=S1.nw j b hb;have e:=Ds j b z hb;exact⟨q1,eH x2.hh (by rw[e];exact q2),x2.off b (by rw[e];exact q2) q3⟩
theorem bT.append{R:V->D->List Addr->Prop}{vs vs':List V}{ds fM:List D}{f f':List Addr}(o:bT R vs ds f)(o':bT R vs' fM f'):bT R (vs++vs') (ds++fM) (f++f'):=by
 induction o with
 |nil=>exact o'
 |cons h _ ih=>rw[xi];exact .cons h ih
def FQ(md:List Nat)(i:Nat)(t:gu):cx:=λE ρ=>∃l1,ρ[i]? =some (some (.lst l1))/\t (cA md ρ) λl2=>l1.length+l2.length<=sizeLine/\E.rt (.lst (l1++l2))
theorem tP(i:Nat){x:Str}{px Th:Pos}(he:DF Z X 2 e tf)(hm:md.getD i 0=2:=by rfl)(hi:X.N[i]? =some x:=by rfl)(hv:j5 X.env.scope x:=by first|exact Or.inl rfl|exact Or.inr (Or.inl rfl) |exact Or.inr (Or.inr rfl))(hd:(x==("__debug__":Str))=false:=by decide)(dh:(x==("__classdict__":Str))=false:=by decide):
  DSt Z X md 2 (.Return (some (.BinOp (.Name x px) .Add e Th)) pos) (FQ md i tf):=by
 refine(rD (wy qZ (pv i hi hv hd dh) he)).imp ?_;intro D σ H aL;rfl';obtain⟨B,ρ,E,⟨G,fp,S⟩,⟨l1,h1,h⟩,M⟩:=aL;obtain⟨v0,jh,o⟩:=S.at_ i _ h1;rw[hm] at o;obtain⟨a,xs,ds,cC,rfl,ed,ha,hf,ol⟩:=o.lst;cases ed;ac_rfl;refine⟨_,jh,G,_,_,S.ex.sub,S.mW,h,λl2 hl v2 f2 G1 H1 x1 o2 nh xQ=>?_⟩;rfl';obtain⟨b,zs,Vc,OD,rfl,ed2,hb,xJ,Yw⟩:=o2.lst;cases ed2;obtain⟨hz,hrt⟩:=hl;ac_rfl;subst xJ;have BF:=S.nd i;rw[hf] at BF;have L0:∀c∈cC,c∈fp i:=λc hc=>by rw[hf];exact b8 _ hc
 refine⟨a,b,xs,zs,rfl,rfl,x1.hh _ _ ha,hb,by rw[ol.length,Yw.length];exact hz,λp hp=>?_⟩
 have n1:∀c∈cC,c≠p:=λc hc z=>eH x1.hh (S.nw i c (L0 c hc)).2.1 (by rw[z];exact hp)
 have n2:∀c∈OD,c≠p:=λc hc z=>(xQ c (b8 _ hc)).2.1 (by rw[z];exact hp)
 refine M.rt _ hrt (.ref p) (p::(cC++OD)) G1 _ ((S.ex.trans x1).side hp) (.inl ⟨p,xs++zs,_,_,rfl,rfl,au,rfl,?_⟩) ?_ ?_
 ·refine bT.append (ol.imp λv d f hf od=>od.keep x1.gg λc hc=>?_) (Yw.imp λv d f hf od=>od.keep (.refl _) λc hc=>aw (n2 c (hf c hc)))
  rw[aw (n1 c (hf c hc))];cases z:H c with
  |none=>exact absurd z (S.nw i c (L0 c (hf c hc))).2.1
  |some o=>exact x1.hh _ _ z
 ·rw[eI,gN]
  refine⟨λz=>?_,(eI.mp BF).2,(eI.mp nh).2,λc hc c' oP z=>?_⟩
  ·rcases fR.mp z with z|z
   ·exact n1 p z rfl
   ·exact n2 p z rfl
  ·subst z
   exact(S.nw i c (L0 c hc)).2.1 (xQ c (b8 _ oP)).1
 ·intro c hc
  rcases cD.mp hc with rfl|hc
  ·exact⟨S.ex.hh.free (x1.hh.free hp),(by rw[au];exact λz=>nomatch z),x1.sub.free hp⟩
  ·rcases fR.mp hc with hc|hc
   ·obtain⟨q1,q2,q3⟩:=S.nw i c (L0 c hc)
    exact⟨q1,(by rw[aw (n1 c hc)];exact eH x1.hh q2),x1.off c q2 q3⟩
   ·obtain⟨q1,q2,q3⟩:=xQ c (b8 _ hc)
    exact⟨S.ex.hh.free q1,(by rw[aw (n2 c hc)];exact q2),q3⟩
end
end L2
namespace lg
open PySem L2 Wb
variable {P:Program} {w:World} {mg:Str->Option Value} {base:Heap} {Z:DC} (T:Txt Z mg)
open Wy
def Ee:bP:=λds P=>∃(r:List Nat)(x:Nat),ds= [av r,ag x]/\x∈r/\r.length<=20/\P (ag (ar r x))
theorem iu:FnOk P w Z.K mg base bB 1 T.d__law_behind.f T.d__law_behind.fd ["_law_row","_law_thing"] (aF Z Ee):=by
 have nd:=mh.nd;refine aP T.d__law_behind.F mh [0,0] (by decide) (λds R h=>by obtain⟨_,_,rfl,_⟩:=h;rfl) (λbc A outer s H E ds R hr h=>?_)
 have hu:=hr.units;refine⟨_,(ai (aE (aJ (aa 0) (az cv (az ba (kC (aa 0) (aa 1)) ao) (aA aX rfl T.B.len aW (ab (aa 0) ae)))))),?_⟩;obtain⟨r,x,rfl,hx,hl,q⟩:=h;have lr:(r.map ag).length=r.length:=aI _;have pos:0<r.length:=zo hx;have e0:(0:Int)<((r.map ag).length:Int):=by rw[lr];omega
 refine⟨_,rfl,_,rfl,_,rfl,_,rfl,rfl,bQ _,_,_,(bx hx).1,(bx hx).2.1,(bx hx).2.2,?_⟩;refine⟨_,rfl,e0,?_⟩;have em:((r.idxOf x:Nat):Int)+1=((r.idxOf x+1:Nat):Int):=by omega
 have et:(((r.idxOf x:Nat):Int)+1)%((r.map ag).length:Int)=(((r.idxOf x+1)%r.length:Nat):Int):=by rw[lr,em,Int.natCast_emod]
 refine⟨ag (ar r x),?_,q⟩;show gv (r.map ag) ((λi j=>i%j) _ _)=_;dsimp only;rw[et];exact jo (uf _ pos)
def Ks:bP:=λds P=>∃(r:List Nat)(x:Nat)(ys:List Nat),ds= [av r,ag x,av ys]/\x∈r/\r.length<=20/\ys.length<=5/\P (av (CA r x ys))
theorem e8:FnOk P w Z.K mg base bB 1 T.d__law_after.f T.d__law_after.fd ["_law_row","_law_thing","_law_things"] (gz Z 1 Ks):=by
 have nd:=nG.nd;refine kE 1 T.d__law_after.F nG [0,0,0,0] (by decide) (λds R h=>by obtain⟨_,_,_,rfl,_⟩:=h;rfl) (λbc A outer s H E ds R hr h=>?_)
 have hu:=hr.units
 refine⟨_,(af (aH false 3 nd (az ba (kC (aa 0) (aa 1)) ao))
   (ai (A3 (om (az ba (cR (aa 0) cX (cY (aa 3))) (aa 2)) (cR (aa 0) (cY (aa 3)) cX))))),?_⟩
 obtain⟨r,x,ys,rfl,hx,hl,hy,q⟩:=h;have lr:(r.map ag).length=r.length:=aI _;have hi:=xa.mpr hx;refine⟨_,rfl,_,rfl,_,rfl,rfl,bQ _,_,_,(bx hx).1,(bx hx).2.1,(bx hx).2.2,trivial,?_⟩;refine vY [some (av r),some (ag x),some (av ys),some (.int ((r.idxOf x+1:Nat):Int))] rfl ?_;have c1:cutD (r.map ag) none (some ((r.idxOf x+1:Nat):Int))=(r.take (r.idxOf x+1)).map ag:=by rw[fZ _ _ (by rw[lr];omega),r9]
 have c2:cutD (r.map ag) (some ((r.idxOf x+1:Nat):Int)) none=(r.drop (r.idxOf x+1)).map ag:=by rw[fY _ _ (by rw[lr];omega),sg]
 have l1:(cutD (r.map ag) none (some ((r.idxOf x+1:Nat):Int))).length<=20:=by rw[c1,aI,fj];omega
 have l2:(cutD (r.map ag) (some ((r.idxOf x+1:Nat):Int)) none).length<=20:=by rw[c2,aI,kY];omega
 have ly:(ys.map ag).length=ys.length:=aI _;refine⟨_,rfl,_,rfl,_,rfl,small (by omega),_,rfl,_,rfl,_,rfl,_,rfl,small (by rw[dG];omega),?_⟩
 rw[c1,c2]
 have:=q
 unfold CA av at this;rw[fc,fc] at this;exact this
def Kw:bP:=λds P=>∃(w:W)(a b:Nat),ds= [ay w,ag a,ag b]/\Hz w a b/\P (ay (oE w a b))
def KI:bP:=λds P=>∃(w:W)(a b:Nat),ds= [ay w,ag a,ag b]/\Hy w a b/\P (ay (lO w a b))
theorem mK:FnOk P w Z.K mg base bB 2 T.d__law_eight_faced.f T.d__law_eight_faced.fd ["_law_turns","_law_a","_law_b"] (qR Z 2 Kw):=by
 have nd:=ic.nd;refine yu 2 T.d__law_eight_faced.F ic [2,0,0,0,0] (by intro i h1 h2;match i,h1,h2 with|1,_,_=>rfl|2,_,_=>rfl|i+3,_,h=>exact absurd h (by simp)) rfl (λds R h=>by obtain⟨_,_,_,rfl,_⟩:=h;rfl) (λbc A outer s H E ds R hr h=>?_)
 have hu:=hr.units
 refine⟨_,(af (aH true 3 nd (ax T.d__law_behind (iu T) hr (ab (aJ (aa 0) (aa 2)) (ab (aa 1) ae))))
   (af (aH true 4 nd (aA aX rfl T.B.len aW (ab (aa 0) ae)))
   (af (hZ 0 (aa 1) (iT T.d__law_after (e8 T) hr (ab (aJ (aa 0) (aa 1)) (ab (aa 3) (ab (di (ab (az ba (aa 4) ao) (ab (aa 4) ae))) ae)))))
   (af (hZ 0 (aa 2) (iT T.d__law_after (e8 T) hr (ab (aJ (aa 0) (aa 2)) (ab (aa 1) (ab (di (ab (aa 4) (ab (az ba (aa 4) ao) ae))) ae)))))
   (af (hZ 0 (aa 3) (iT T.d__law_after (e8 T) hr (ab (aJ (aa 0) (aa 3)) (ab (aa 2) (ab (di (ab (az ba (aa 4) ao) (ab (az ba (aa 4) ao) ae))) ae)))))
   (ai (tP 0 (vq (gj (eo (ab (aa 2) (ab (aa 1) (ab (az ba (aa 4) ao) (ab (az ba (aa 4) ao) ae))))) (gj (eo (ab (aa 3) (ab (aa 2) (ab (aa 4) (ab (az ba (aa 4) ao) ae))))) (gj (eo (ab (aa 1) (ab (aa 3) (ab (az ba (aa 4) ao) (ab (aa 4) ae))))) vt))))))))))),?_⟩
 obtain⟨w',a,b,rfl,⟨⟨ha,hb,hc,Qr⟩,⟨m1,m2,m3,m4⟩,l1,l2,l3,l4⟩,q⟩:=h;have lw:(w'.map av).length=w'.length:=aI _;refine⟨_,rfl,_,rfl,_,ck hb,_,rfl,row w' b,a,rfl,m1,l1,rfl,?_⟩;refine⟨_,rfl,?_⟩;dsimp only[cW,eN,ay];refine⟨rfl,?_⟩;refine fB [some (ay w'),some (ag a),some (ag b),some (ag (dF w' a b)),some (ag w'.length)] (by rw[lw];rfl) ?_
 refine⟨_,rfl,_,rfl,_,ck ha,_,rfl,_,rfl,_,rfl,by show 2<=sizeLine;decide,?_⟩
 refine⟨row w' a,dF w' a b,[w'.length+2,w'.length],rfl,m2,l2,Cq rfl,_,rfl,?_⟩;refine⟨bQ _,_,rfl,_,rfl,_,a,rfl,bU (by rw[lw];exact ha),?_⟩
 have g1:(zK w' a b).length=w'.length:=by unfold zK;rw[cM]
 have g2:(zL w' a b).length=w'.length:=by unfold zL;rw[cM,g1]
 have g3:(Io w' a b).length=w'.length:=by unfold Io;rw[cM,g2]
 refine fB [some (ay (zK w' a b)),some (ag a),some (ag b),some (ag (dF w' a b)),some (ag w'.length)] (by unfold zK ay;rw[<-dH];rfl) ?_
 refine⟨_,rfl,_,rfl,_,ck (by rw[g1];exact hb),_,rfl,_,rfl,_,rfl,by show 2<=sizeLine;decide,?_⟩
 refine⟨row (zK w' a b) b,a,[w'.length,w'.length+1],rfl,m3,l3,Cq rfl,_,rfl,?_⟩;refine⟨bQ _,_,rfl,_,rfl,_,b,rfl,bU (by rw[aI,g1];exact hb),?_⟩
 refine fB [some (ay (zL w' a b)),some (ag a),some (ag b),some (ag (dF w' a b)),some (ag w'.length)] (by unfold zL ay;rw[<-dH];rfl) ?_
 refine⟨_,rfl,_,rfl,_,ck (by rw[g2];exact hc),_,rfl,_,rfl,_,rfl,by show 2<=sizeLine;decide,?_⟩
 refine⟨row (zL w' a b) (dF w' a b),b,[w'.length+1,w'.length+2],rfl,m4,l4,Cq rfl,_,rfl,?_⟩;refine⟨bQ _,_,rfl,_,rfl,_,dF w' a b,rfl,bU (by rw[aI,g2];exact hc),?_⟩
 refine vY [some (ay (Io w' a b)),some (ag a),some (ag b),some (ag (dF w' a b)),some (ag w'.length)] (by unfold Io ay;rw[<-dH];rfl) ?_
 refine⟨_,rfl,_,rfl,_,rfl,_,rfl,_,rfl,by show 4<=sizeLine;decide,_,rfl,_,rfl,_,rfl,_,rfl,by show 4<=sizeLine;decide,_,rfl,_,rfl,_,rfl,_,rfl,by show 4<=sizeLine;decide,by show 3<=sizeLine;decide,small (by rw[aI,g3];show _+3<=1000;omega),?_⟩
 have:=q
 unfold oE ay at this;rw[fc] at this;exact this
theorem uu:FnOk P w Z.K mg base bB 2 T.d__law_split.f T.d__law_split.fd ["_law_turns","_law_a","_law_b"] (qR Z 2 KI):=by
 have nd:=nM.nd;refine yu 2 T.d__law_split.F nM [2,0,0,0,0,0] (by intro i h1 h2;match i,h1,h2 with|1,_,_=>rfl|2,_,_=>rfl|i+3,_,h=>exact absurd h (by simp)) rfl (λds R h=>by obtain⟨_,_,_,rfl,_⟩:=h;rfl) (λbc A outer s H E ds R hr h=>?_)
 have hu:=hr.units
 refine⟨_,(af (aH true 3 nd (ax T.d__law_behind (iu T) hr (ab (aJ (aa 0) (aa 2)) (ab (aa 1) ae))))
   (af (aH true 4 nd (ax T.d__law_behind (iu T) hr (ab (aJ (aa 0) (aa 1)) (ab (aa 2) ae))))
   (af (aH true 5 nd (aA aX rfl T.B.len aW (ab (aa 0) ae)))
   (af (hZ 0 (aa 3) (iT T.d__law_after (e8 T) hr (ab (aJ (aa 0) (aa 3)) (ab (aa 2) (ab (di (ab (az ba (aa 5) ao) (ab (aa 5) ae))) ae)))))
   (af (hZ 0 (aa 4) (iT T.d__law_after (e8 T) hr (ab (aJ (aa 0) (aa 4)) (ab (aa 1) (ab (di (ab (aa 5) (ab (az ba (aa 5) ao) ae))) ae)))))
   (af (yh false 0 (aa 1) (kC (aJ (aa 0) (aa 1)) (aa 2)) (aa 5))
   (af (yh false 0 (aa 2) (kC (aJ (aa 0) (aa 2)) (aa 1)) (az ba (aa 5) ao))
   (ai (tP 0 (vq (gj (eo (ab (aa 4) (ab (aa 1) (ab (aa 3) (ab (az ba (aa 5) ao) ae))))) (gj (eo (ab (aa 3) (ab (aa 2) (ab (aa 4) (ab (aa 5) ae))))) vt)))))))))))),?_⟩
 obtain⟨w',a,b,rfl,⟨⟨ha,hb,hx,hy,Qr⟩,⟨m1,m2,m3,m4,m5,m6⟩,l1,l2,l3,l4,l5,l6⟩,q⟩:=h;have lw:(w'.map av).length=w'.length:=aI _;refine⟨_,rfl,_,rfl,_,ck hb,_,rfl,row w' b,a,rfl,m1,l1,rfl,?_⟩;refine⟨_,rfl,_,rfl,_,ck ha,_,rfl,row w' a,b,rfl,m2,l2,rfl,?_⟩;refine⟨_,rfl,?_⟩;dsimp only[cW,eN,ay];refine⟨rfl,?_⟩;have g1:(xW w' a b).length=w'.length:=by unfold xW;rw[cM]
 have g2:(uB w' a b).length=w'.length:=by unfold uB;rw[cM,g1]
 have g3:(uC w' a b).length=w'.length:=by unfold uC;rw[cM,g2]
 have g4:(Hd w' a b).length=w'.length:=by unfold Hd;rw[cM,g3]
 refine fB [some (ay w'),some (ag a),some (ag b),some (ag (dF w' a b)),some (ag (dF w' b a)),some (ag w'.length)] (by rw[lw];rfl) ?_
 refine⟨_,rfl,_,rfl,_,ck hx,_,rfl,_,rfl,_,rfl,by show 2<=sizeLine;decide,?_⟩
 refine⟨row w' (dF w' a b),b,[w'.length+1,w'.length],rfl,m3,l3,Cq rfl,_,rfl,?_⟩;refine⟨bQ _,_,rfl,_,rfl,_,dF w' a b,rfl,bU (by rw[lw];exact hx),?_⟩
 refine fB [some (ay (xW w' a b)),some (ag a),some (ag b),some (ag (dF w' a b)),some (ag (dF w' b a)),some (ag w'.length)] (by unfold xW ay;rw[<-dH];rfl) ?_
 refine⟨_,rfl,_,rfl,_,ck (by rw[g1];exact hy),_,rfl,_,rfl,_,rfl,by show 2<=sizeLine;decide,?_⟩
 refine⟨row (xW w' a b) (dF w' b a),a,[w'.length,w'.length+1],rfl,m4,l4,Cq rfl,_,rfl,?_⟩;refine⟨bQ _,_,rfl,_,rfl,_,dF w' b a,rfl,bU (by rw[aI,g1];exact hy),?_⟩
 refine fB [some (ay (uB w' a b)),some (ag a),some (ag b),some (ag (dF w' a b)),some (ag (dF w' b a)),some (ag w'.length)] (by unfold uB ay;rw[<-dH];rfl) ?_
 have r2:((uB w' a b).map av)[a]? =some (.lst ((row (uB w' a b) a).map ag)):=kU (by rw[g2];exact ha)
 refine⟨_,rfl,trivial,_,rfl,_,rfl,_,a,_,rfl,bU (by rw[aI,g2];exact ha),r2,?_⟩
 refine⟨_,rfl,_,rfl,_,ck (by rw[g2];exact ha),_,rfl,_,rfl,rfl,bQ _,_,_,(bx m5).1,(bx m5).2.1,(bx m5).2.2,?_⟩
 refine⟨_,_,rfl,bU (by rw[aI];exact xa.mpr m5),?_⟩
 refine fB [some (ay (uC w' a b)),some (ag a),some (ag b),some (ag (dF w' a b)),some (ag (dF w' b a)),some (ag w'.length)] (by unfold uC ay;rw[<-dH];unfold av;rw[xp];rfl) ?_
 have r3:((uC w' a b).map av)[b]? =some (.lst ((row (uC w' a b) b).map ag)):=kU (by rw[g3];exact hb)
 refine⟨_,rfl,trivial,_,rfl,_,rfl,_,b,_,rfl,bU (by rw[aI,g3];exact hb),r3,?_⟩
 refine⟨_,rfl,_,rfl,_,ck (by rw[g3];exact hb),_,rfl,_,rfl,rfl,bQ _,_,_,(bx m6).1,(bx m6).2.1,(bx m6).2.2,?_⟩
 refine⟨_,_,rfl,bU (by rw[aI];exact xa.mpr m6),?_⟩
 refine vY [some (ay (Hd w' a b)),some (ag a),some (ag b),some (ag (dF w' a b)),some (ag (dF w' b a)),some (ag w'.length)] (by unfold Hd ay;rw[<-dH];unfold av;rw[xp];rfl) ?_
 refine⟨_,rfl,_,rfl,_,rfl,_,rfl,_,rfl,by show 4<=sizeLine;decide,_,rfl,_,rfl,_,rfl,_,rfl,by show 4<=sizeLine;decide,by show 2<=sizeLine;decide,small (by rw[aI,g4];show _+2<=1000;omega),?_⟩
 have:=q
 unfold lO ay at this;rw[fc] at this;exact this
variable {P:Program} {w:World} {mg:Str->Option Value} {base:Heap} {Z:DC} (T:Txt Z mg)
def Se(w:W)(fu:Int)(m:Nat):Prop:=(w=iG/\m=2)\/((∃c,(w,c)∈F3)/\m=1/\(fu=0\/fu=2\/fu=3))\/((∃c,(w,c)∈Qi)/\w.length=8/\m=0/\(fu=0\/fu=2\/fu=3))
theorem at5(x:Int):∃v:Int,gv [D.int 0,D.int 2,D.int 2,D.int 3,D.int 3] (x%5)=some (.int v)/\(v=0\/v=2\/v=3):=by
 have m:=gU x 5 (by decide)
 have:x%5=0\/x%5=1\/x%5=2\/x%5=3\/x%5=4:=by omega
 rcases this with h|h|h|h|h<;>rw[h]
 ·exact⟨0,rfl, .inl rfl⟩
 ·exact⟨2,rfl, .inr (.inl rfl)⟩
 ·exact⟨2,rfl, .inr (.inl rfl)⟩
 ·exact⟨3,rfl, .inr (.inr rfl)⟩
 ·exact⟨3,rfl, .inr (.inr rfl)⟩
theorem Iq{w:W}{fu:Int}{m:Nat}(h:Se w fu m):j3 w/\w.length<=8:=by
 have all:=jZ.mp LG;have p2:=jZ.mp yW
 rcases h with ⟨rfl,_⟩ | ⟨⟨c,h⟩,_⟩ | ⟨⟨c,h⟩,hl,_⟩
 ·exact⟨vz (all (iG,[0,1,2]) (cw ..)),by decide⟩
 ·have:=p2 (w,c) h
  rw[iJ] at this;exact⟨vz (all (w,c) (b8 _ (mE _ h))),by have h6:w.length=6:=of_decide_eq_true this.1;omega⟩
 ·exact⟨vz (all (w,c) (b8 _ (dQ _ h))),by omega⟩
def Na:bP:=λds P=>∃(n:Int),ds= [.int n, .int 8]/\∀w,j3 w->w.length<=8->P (ay w)
theorem xS:FnOk P w Z.K mg base bB 3 T.d__law_even.f T.d__law_even.fd ["_law_number","_law_most"] (aF Z Na):=by
 have nd:=oZ.nd;refine aP T.d__law_even.F oZ [0,0,2,0,0,0] (by decide) (λds R h=>by obtain⟨_,rfl,_⟩:=h;rfl) (λbc A outer s H E ds R hr h=>?_)
 have hu:=hr.units
 refine⟨_,(af (hJ 2 nd (vq (gj (eo (ab ao (ab ao ae))) (gj (eo (ab ao (ab ao ae))) (gj (eo (ab ao (ab ao ae))) vt)))))
   (af (aH false 3 nd (az ba ao (az cv (aa 0) ao)))
   (af (aH false 0 nd (az eY (aa 0) ao))
   (af (oq PassesOwn.never (DW.dt (uO (aK v7 (az ba (aA aX rfl T.B.len aW (ab (aa 2) ae)) (aa 3)) (aa 1) (aR _)) (qF (aK vZ (aa 3) ao (aR _))))) (af (aH true 4 nd (az cv (aa 0) (aA aX rfl T.B.len aW (ab (aa 2) ae))))
   (af (aH true 0 nd (az eY (aa 0) (aA aX rfl T.B.len aW (ab (aa 2) ae))))
   (af (aH true 5 nd (aJ (aJ (aa 2) (aa 4)) (az cv (aa 0) (aA aX rfl T.B.len aW (ab (aJ (aa 2) (aa 4)) ae)))))
   (af (aH true 0 nd (az eY (aa 0) (aA aX rfl T.B.len aW (ab (aJ (aa 2) (aa 4)) ae))))
   (af (bh (DW.dt (uO (aK (gf hu) (aa 3) ao (aR _)) (qF (aK vZ (aA aX rfl T.B.len aW (ab (aa 2) ae)) ao (aR _))))) (ai (A2 2 2 nd T.d__law_split (uu T) hr (ab (aa 4) (ab (aa 5) ae)))) (ai (bh (aK v7 (az ba (aA aX rfl T.B.len aW (ab (aa 2) ae)) ao) (aa 1) (aR _)) (ai (A2 2 2 nd T.d__law_eight_faced (mK T) hr (ab (aa 4) (ab (aa 5) ae)))) aO)))
   (af (aH false 3 nd (aJ (di (ab ao (ab ao (ab ao (ab ao (ab ao ae)))))) (az cv (aa 0) ao)))
   (ai (aH false 0 nd (az eY (aa 0) ao))))))))))
   (ai (aE (aa 2))))))),?_⟩
 obtain⟨n,rfl,q⟩:=h;refine⟨by show 2<=sizeLine;decide,by show 2<=sizeLine;decide,by show 2<=sizeLine;decide,by show 3<=sizeLine;decide,?_⟩
 refine⟨_,rfl,(by show(0:Int)<6;decide),trivial,?_⟩
 refine⟨_,rfl,⟨by decide,by decide⟩,trivial,?_⟩
 refine lU (λm ρ=>∃(x fu:Int)(w:W)(o4 o5:Option D),ρ= [some (.int x),some (.int 8),some (ay w),some (.int fu),o4,o5]/\Se w fu m) 2 ⟨_,_,iG,none,none,rfl, .inl ⟨rfl,rfl⟩⟩ ?_;rintro m _ ⟨x,fu,w',o4,o5,rfl,St⟩;obtain⟨F,h8⟩:=Iq St;have g:=F.g;have n3:=F.n3;have lw:(w'.map av).length=w'.length:=aI _;have e0:(0:Int)<((w'.map av).length:Int):=by rw[lw];omega
 refine⟨_,rfl,?_⟩;dsimp only[cW,eN,ay];refine⟨_,rfl,_,rfl,_,rfl,bN (λe1=>⟨_,rfl,_,rfl,bN (λe2=>?_) (λe2=>⟨_,rfl,q w' F h8⟩)⟩) (λe1=>bH ⟨_,rfl,q w' F h8⟩)⟩;have e1:=of_decide_eq_true e1;have e2:=of_decide_eq_true e2;refine⟨_,rfl,_,rfl,?_⟩;dsimp only[cW,eN,ay];refine⟨e0,rfl,?_⟩;have m1:=gU x ((w'.map av).length:Int) e0;generalize LJ:x%((w'.map av).length:Int)=at_ at m1;obtain⟨a,rfl⟩:∃a:Nat,at_=(a:Int):=⟨at_.toNat,by omega⟩
 rw[lw] at m1;have ha:a<w'.length:=by omega
 refine fB [some (.int x),some (.int 8),some (ay w'),some (.int fu),some (ag a),o5] (by unfold ag;rw[<-LJ];rfl) ?_
 refine⟨_,rfl,_,rfl,?_⟩;dsimp only[cW,eN,ay];refine⟨⟨e0,by rw[lw];omega⟩,rfl,?_⟩
 generalize hx1:x / ((w'.map av).length:Int)=x1;refine fB [some (.int x1),some (.int 8),some (ay w'),some (.int fu),some (ag a),o5] (by rw[<-hx1];rfl) ?_
 have rne:0<(row w' a).length:=Cr.mpr (g.Ao (by omega) ha)
 have rl:=e9 g a;have lr:((row w' a).map ag).length=(row w' a).length:=aI _;have e3:(0:Int)<(((row w' a).map ag).length:Int):=by rw[lr];omega
 refine⟨_,rfl,_,rfl,_,ck ha,_,rfl,_,rfl,_,rfl,_,ck ha,?_⟩;dsimp only[cW,eN,av];refine⟨e3,?_⟩;have m2:=gU x1 (((row w' a).map ag).length:Int) e3;generalize hkt:x1%(((row w' a).map ag).length:Int)=kt at m2;obtain⟨k,rfl⟩:∃k:Nat,kt=(k:Int):=⟨kt.toNat,by omega⟩
 rw[lr] at m2;have hk:k<(row w' a).length:=by omega
 generalize Qz:(row w' a).getD k 0=b;have hb:gv ((row w' a).map ag) (x1%(((row w' a).map ag).length:Int))=some (ag b):=by rw[hkt,<-Qz];exact jo hk
 have hd:(a,b)∈bf w':=b6.mpr (by show b∈row w' a;rw[<-Qz];exact bw hk)
 refine⟨ag b,hb,rfl,?_⟩;refine fB [some (.int x1),some (.int 8),some (ay w'),some (.int fu),some (ag a),some (ag b)] rfl ?_;refine⟨_,rfl,_,rfl,_,rfl,_,ck ha,?_⟩;dsimp only[cW,eN,av];refine⟨⟨e3,by rw[lr];omega⟩,rfl,?_⟩
 generalize Q0:x1 / (((row w' a).map ag).length:Int)=x2;refine fB [some (.int x2),some (.int 8),some (ay w'),some (.int fu),some (ag a),some (ag b)] (by rw[<-Q0];rfl) ?_
 have fin:∀(E':fJ)(w2:W),(∀(x3 v:Int),(v=0\/v=2\/v=3)->E'.nx [some (.int x3),some (.int 8),some (ay w2),some (.int v),some (ag a),some (ag b)])->lX (EL [0,0,2,0,0,0] false 3 (AY P0 (Om (i9 (dC (D.int 0)) (i9 (dC (D.int 2)) (i9 (dC (D.int 2)) (i9 (dC (D.int 3)) (i9 (dC (D.int 3)) cW)))))) (AY Oo (AZ 0) (dC (D.int 5))))) (EL [0,0,2,0,0,0] false 0 (AY Of (AZ 0) (dC (D.int 5)))) E' [some (.int x2),some (.int 8),some (ay w2),some (.int fu),some (ag a),some (ag b)]:=λE' w2 hE=>by
  obtain⟨v,hv,hc⟩:=at5 x2;refine⟨by show 5<=sizeLine;decide,_,rfl,(by show(0:Int)<5;decide),_,hv,trivial,?_⟩
  exact⟨_,rfl,⟨by decide,by decide⟩,trivial,hE _ v hc⟩
 have lw3:((w'.map av).length:Int)=(w'.length:Int):=by rw[lw]
 rcases St with ⟨rfl,rfl⟩ | ⟨⟨c,hc⟩,rfl,hfu⟩ | ⟨_,hl,_,_⟩
 ·have pre:Hz iG a b:=of_decide_eq_true (jZ.mp GW (a,b) hd)
  have mem:=Ju hd;refine⟨_,rfl,?_⟩;refine xE ⟨_,rfl,bN (λe=>⟨_,rfl,?_⟩) (λe=>bH ?_)⟩
  ·dsimp only[cW,eN,ay]
   refine⟨_,rfl,yD rfl ?_⟩;refine⟨_,rfl,?_⟩;dsimp only[cW,eN,ay];refine⟨_,rfl,_,rfl,?_⟩;rw[if_pos (by decide)]
   refine⟨_,rfl,_,rfl,_,rfl,iG,a,b,rfl,pre,?_⟩;exact fin _ (oE iG a b) λx3 v hv=>⟨1,by decide,x3,v,_,_,_,rfl, .inr (.inl ⟨mem,rfl,hv⟩)⟩
  ·refine⟨_,rfl,?_⟩
   dsimp only[cW,eN,ay];refine⟨_,rfl,_,rfl,?_⟩;rw[if_pos (by decide)]
   refine⟨_,rfl,_,rfl,_,rfl,iG,a,b,rfl,pre,?_⟩;exact fin _ (oE iG a b) λx3 v hv=>⟨1,by decide,x3,v,_,_,_,rfl, .inr (.inl ⟨mem,rfl,hv⟩)⟩
 ·have p2:=jZ.mp yW (w',c) hc
  rw[iJ] at p2;have l6:w'.length=6:=of_decide_eq_true p2.1;have pre:Hy w' a b:=of_decide_eq_true (jZ.mp p2.2 (a,b) hd);have mem:=Jv hc hd;have f2:fu=2:=by omega
  subst f2
  have l8:(lO w' a b).length=8:=by
   unfold lO Hd uC uB xW;simp[l6]
  refine⟨_,rfl,?_⟩;refine xE ⟨_,rfl,b9 ⟨_,rfl,?_⟩⟩;dsimp only[cW,eN,ay];refine⟨_,rfl,?_⟩;dsimp only;refine(if_pos (show decide ((3:Int)<((w'.map av).length:Int))=true from decide_eq_true (by rw[lw,l6];decide))).mpr ⟨_,rfl,_,rfl,_,rfl,w',a,b,rfl,pre,?_⟩
  exact fin _ (lO w' a b) λx3 v hv=>⟨0,by decide,x3,v,_,_,_,rfl, .inr (.inr ⟨mem,l8,rfl,hv⟩)⟩
 ·omega
variable {P:Program} {w:World} {mg:Str->Option Value} {base:Heap} {Z:DC} (T:Txt Z mg)
def Hi:bP:=λds P=>∃(ns:List Int),ds= [.lN ns]/\∀w,j3 w->w.length<=8->P (ay w)
theorem uw:FnOk P w Z.K mg base bB 4 T.d__law_filled.f T.d__law_filled.fd ["_law_script"] (aF Z Hi):=by
 have nd:=ml.nd;refine aP T.d__law_filled.F ml [0,0,0,0] (by decide) (λds R h=>by obtain⟨_,rfl,_⟩:=h;rfl) (λbc A outer s H E ds R hr h=>?_)
 have hu:=hr.units
 refine⟨_,(af (aH false 1 nd (ax T.d__law_drawn (jq T) hr (ab (ax T.d__law_cell_at (cS T) hr (ab (aa 0) (ab ao ae))) ae)))
   (af (bh (aK (gf hu) (az cv (ax T.d__law_cell_at (cS T) hr (ab (aa 0) (ab ao ae))) ao) ao (aR _)) (ai (aH false 2 nd (ax T.d__law_even (xS T) hr (ab (aa 1) (ab ao ae))))) (af (uM (ax T.d__law_grown (v8 T) hr (ab (az ba (az uS (az eY (aa 1) ao) ao) (az cv (aa 1) ao)) (ab ao ae))) (eu 2 rfl (aN (aG 2 nd) (aN (aG 3 nd) b7))))
   (ai (aH false 2 nd (ax T.d__law_closed (uv T) hr (ab (aa 2) (ab (aa 3) ae)))))))
   (ai (aE (ax T.d__law_named (v9 T) hr (ab (aa 2) (ab (ax T.d__law_drawn (jq T) hr (ab (ax T.d__law_cell_at (cS T) hr (ab (aa 0) (ab ao ae))) ae)) ae))))))),?_⟩
 obtain⟨ns,rfl,q⟩:=h;refine⟨_,rfl,ns,0,rfl,λc0=>⟨c0,rfl,λn=>⟨trivial,?_⟩⟩⟩
 have fin:∀(E':fJ)(w:W)(o3:Option D),E'.rt=R->j3 w->w.length<=8->Ou (mS B6 (i9 (AZ 2) (i9 (mS B3 (i9 (mS ze (i9 (AZ 0) (i9 (dC (D.int 1)) cW))) cW)) cW))) E' [some (.lN ns),some (.int n),some (ay w),o3]:=λE' w o3 e F h8=>by
  refine⟨_,rfl,_,rfl,ns,1,rfl,λc1=>⟨c1,rfl,λn1=>⟨w,n1,rfl,F,h8,λv Fv lv=>?_⟩⟩⟩;rw[e];exact q v Fv (by omega)
 refine⟨_,rfl,ns,2,rfl,λc2=>⟨(by show(0:Int)<2;decide),?_⟩⟩
 refine xE ⟨_,rfl,bN (λ_=>?_) (λ_=>?_)⟩
 ·refine⟨_,rfl,n,rfl,λw F h8=>⟨trivial,fin _ w none rfl F h8⟩⟩
 ·refine⟨_,rfl,⟨by decide,by decide⟩, .inr ⟨by decide,by decide⟩,_,rfl,(by show(0:Int)<5;decide),n / 6,n%5,rfl,by omega,by omega,λw R' gd h7=>?_⟩
  refine⟨rfl,rfl,?_⟩;exact⟨_,rfl,_,rfl,w,R',rfl,gd,h7,λv Fv hv=>⟨trivial,fin _ v _ rfl Fv hv⟩⟩
def Ng:bP:=λds P=>∃(w:W),ds= [ay w]/\Good w/\1<=w.length/\w.length<=14/\P (.fk w)
theorem Ag:FnOk P w Z.K mg base bB 6 T.d__law_web.f T.d__law_web.fd ["_law_turns"] (aF Z Ng):=by
 have nd:=rL.nd;refine aP T.d__law_web.F rL [0] (by decide) (λds R h=>by obtain⟨_,rfl,_⟩:=h;rfl) (λbc A outer s H E ds R hr h=>?_)
 have hu:=hr.units;refine⟨_,(ai (aE (Ia T.mkW (tj T) (hr.mono (by decide)) rfl T.mC T.m___init__b (ab (jc (NC:= ["_law_row"]) (src:= [none]) rfl (lB (aq jO)) trivial (bG (aa 0)) (λ_ _ _=>(bF 0 (show(["_law_row"]:List Str).Nodup from by decide+kernel))) (λ_ _ _=>cZ) (λ_ _ _=>(jb qs rfl T.B.list kB (ab (aa 0) ae)))) ae)))),?_⟩
 obtain⟨w',rfl,g,h1,gb,q⟩:=h;exact⟨_,rfl,fU (ρ:= [none]) av av w' _ (λy hy Y h=>⟨_,rfl,h⟩) rfl (small (by omega)) λaD=>⟨w',rfl,g,h1,gb,q⟩⟩
variable {P:Program} {w:World} {mg:Str->Option Value} {base:Heap} {Z:DC} (T:Txt Z mg)
def cm(l:List Int):List D:=l.map D.int
theorem ji(l:List Int):(cm l).length=l.length:=aI _
variable {P:Program} {w:World} {mg:Str->Option Value} {base:Heap} {Z:DC} (T:Txt Z mg)
def He:bP:=λds P=>∃(w:W)(m:Int),ds= [.fk w, .int m]/\(w.length:Int)<=m/\P .aZ
theorem tq:FnOk P w Z.K mg base bB 2 T.d_need_at_most.f T.d_need_at_most.fd ["web","most"] (aF Z He):=by
 have nd:=kQ.nd;refine aP T.d_need_at_most.F kQ [0,0] (by decide) (λds R h=>by obtain⟨_,_,rfl,_⟩:=h;rfl) (λbc A outer s H E ds R hr h=>?_)
 have hu:=hr.units;refine⟨_,(ai (bh (aK vZ (cQ T.W (aa 0) T.m_many.m (eZ T) (hr.mono (by decide)) T.m_many.b) (aa 1) (aR _)) (ai iU) aO)),?_⟩
 obtain⟨w',m,rfl,hm,q⟩:=h;refine⟨_,rfl,w',rfl,w',rfl,_,rfl,_,rfl,?_⟩;exact yD (decide_eq_false (by omega)) ⟨rfl,q⟩
theorem Kp{α:Type}(l:List α)(k:Nat)(x:α)(h:k<l.length):l.take k++ [x]++l.drop (k+1)=l.set k x:=by
 rw[List.set_eq_take_append_cons_drop,if_pos h];simp
end lg
namespace Ws
open Wb
abbrev Dy:=List (Option Int)
def bY(dy:Dy)(p:Nat):Option Int:=dy.getD p none
def lst(ls:List (List Int))(p:Nat):List Int:=ls.getD p []
def left(w:W)(ls:List (List Int))(dy:Dy)(p:Nat):List Int:=(lst ls p).filter λd=>!decide (some d∈(row w p).map λq=>bY dy q)
def Ok(w:W)(ls:List (List Int))(dy:Dy):Prop:=dy.length=w.length/\∀p d,bY dy p=some d->d∈lst ls p/\∀q∈row w p,bY dy q≠some d
def Full(w:W)(dy:Dy):Prop:=∀p,p<w.length->bY dy p≠none
def More(dy dz:Dy):Prop:=∀p d,bY dy p=some d->bY dz p=some d
theorem uI{dy:Dy}{p q:Nat}{d:Int}(h:p<dy.length):bY (dy.set p (some d)) q=if p=q then some d else bY dy q:=by
 unfold bY;rw[Wy.F6]
 by_cases e:p=q
 ·rw[if_pos ⟨e,h⟩,if_pos e]
 ·rw[if_neg (λz=>e z.1),if_neg e]
theorem sZ{w:W}{ls:List (List Int)}{dy:Dy}{p:Nat}{d:Int}:d∈left w ls dy p↔d∈lst ls p/\∀q∈row w p,bY dy q≠some d:=by
 unfold left;rw[mF];simp only[Bool.not_eq_true',decide_eq_false_iff_not,dE,not_exists,not_and]
theorem Ok.put{w:W}{ls:List (List Int)}{dy:Dy}{p:Nat}{d:Int}(g:Good w)(o:Ok w ls dy)(hp:p<w.length)(hn:bY dy p=none)(hd:d∈left w ls dy p):Ok w ls (dy.set p (some d)):=by
 obtain⟨h1,h2⟩:=sZ.mp hd;have hl:p<dy.length:=by rw[o.1];exact hp
 refine⟨by rw[cM];exact o.1,λq e hq=>?_⟩
 rw[uI hl] at hq
 by_cases e1:p=q
 ·rw[if_pos e1] at hq
  cases hq;subst e1;refine⟨h1,λr hr=>?_⟩;rw[uI hl]
  by_cases e2:p=r
  ·subst e2;exact absurd hr (g.irr p)
  ·rw[if_neg e2];exact h2 r hr
 ·rw[if_neg e1] at hq
  obtain⟨h3,h4⟩:=o.2 q e hq;refine⟨h3,λr hr=>?_⟩;rw[uI hl]
  by_cases e2:p=r
  ·subst e2
   rw[if_pos rfl];intro z;cases z;exact h2 q (g.sym _ _ hr) hq
  ·rw[if_neg e2];exact h4 r hr
def jA(dy:Dy):Nat:=dy.countP λo=>o.isNone
theorem kS{dy:Dy}{p:Nat}{d:Int}(hp:p<dy.length)(hn:bY dy p=none):jA (dy.set p (some d))+1=jA dy:=by
 unfold bY at hn;unfold jA;rw[bb,bL hp] at hn;have hn:dy[p]=none:=hn;rw[List.countP_set hp,hn]
 have:0<dy.countP λo=>o.isNone:=List.countP_pos_iff.mpr ⟨dy[p],kZ hp,by rw[hn];rfl⟩
 simp;omega
inductive lq where
 |full (p:Nat)
 |mR (p:Nat) (ps:List (Option lq))
def pQ(w:W)(ls:List (List Int)):Nat->Dy->lq->Prop
 |0,_,_=>False
 |_+1,dy, .full p=>p<w.length/\bY dy p=none/\left w ls dy p= []
 |m+1,dy, .mR p ps=>p<w.length/\bY dy p=none/\ps.length=(lst ls p).length/\
   ∀(i:Nat)(d:Int),(lst ls p)[i]? =some d->(d∈left w ls dy p->∃q,ps[i]? =some (some q)/\pQ w ls m (dy.set p (some d)) q)/\(d∉left w ls dy p->ps[i]? =some none)
end Ws
set_option maxHeartbeats 1000000
namespace HT
open PySem PyProof.Rows
open PySem.SeqAt
open PySem.AutoSeq1 (wpAny_loadPart')
open PySem.MeetsSeq PySem.MeetsSeq2 PySem.MeetsSeq3
section
variable {prog:Program} {w:World} {A:Around} {E:Value->Shared->Prop} {s:Shared}
theorem mZ{t sl:Addr}{items:Array Value}{vl vu:Value}{lo hi:Option Int}{Q:Value->Shared->Prop}(ht:IsTup s.heap t items)(hs:s.heap.IsSliceOf sl vl vu .none)(pl:IsPart vl lo)(pu:IsPart vu hi)
  (hw:bD items.size 0 lo=0/\bD items.size items.size hi=items.size) (h:Q (.ref t) s):wpAny (model prog w) A (getItem (.ref t) (.ref sl)) Q E s:=by
 obtain⟨os,C9,LL,C4⟩:=id hs;have Qy:s.TypeIs (.ref sl) "slice":=⟨os,C9,LL⟩;unfold getItem
 try with_reducible refine wpAny_holding ?_
 first|refine wpAny_bind (wpAny_pure ?_) |skip
 refine wpAny_bind (wpAny_sequenceKey ht.typeIs (by decide) ?_)
 refine wpAny_bind (wpAny_callSpecial?_slot (name:=Str.ofString "__getitem__") ht.typeIs PyProof.Rows.slot_tuple_getitem
  (wpAny_call_entry PyProof.Rows.slot_tuple_getitem ht.typeIs entry_tuple_getitem ?_ (args_tuple_getitem _ _)))
 show wpAny _ _ (Builtin.Tuple.tupleItemsOf (.ref t)>>=_) _ _ s;refine wpAny_bind (tupleItemsOf_ ht ?_);refine wpAny_bind (wpAny_typeOf Qy ?_);rw[if_pos (by decide)]
 refine wpAny_bind (jU hs pl pu ?_)
 have Wf:(((bD items.size 0 lo:Nat):Int)==0&&(1:Int)==1&&(bD items.size items.size hi-bD items.size 0 lo)==items.size)=true:=by
  rw[hw.1,hw.2];simp
 show wpAny _ _ (if (((bD items.size 0 lo:Nat):Int)==0&&(1:Int)==1&&(bD items.size items.size hi-bD items.size 0 lo)==items.size)=true then _ else _) _ _ s;rw[if_pos Wf];refine wpAny_bind ?_;show wpAny _ _ (do return (<-typeOf (.ref t))== .type "tuple") _ _ s
 refine wpAny_bind (wpAny_typeOf ht.typeIs ?_);refine wpAny_pure ?_;rw[if_pos (by decide)]
 refine wpAny_bind (wpAny_rule ?_);exact wpAny_pure ⟨_,rfl,wpAny_pure h⟩
end
end HT
namespace L2
open PySem PySem.Spec PyProof.Rows
section
variable {Z:DC} {X:Cx} {e:Expr} {te:aY} {pos p2:Pos} {lo hi:Option Expr} {tl th:xr}
theorem Kr:AF X (λx lo hi H Q=>∃a xs,x= .ref a/\eB X.K H a xs/\(HT.bD xs.length 0 lo=0/\HT.bD xs.length xs.length hi=xs.length)/\Q (.ref a) H):=by
 intro pins s σ H x v vl vu lo hi sl Q I rx hs pl pu h;obtain⟨a,xs,rfl,hx,hw,q⟩:=h;cases rx;obtain⟨its,r,ht,hz⟩:=I.tuple hx;have hlen:its.toArray.size=xs.length:=by rw[fe];exact r.length.symm
 refine⟨"tuple",_,PyProof.Rows.slot_tuple_getitem.lookup,ht.typeIs,?_⟩;exact HT.mZ ht hs pl pu (by rw[hlen];exact hw) ⟨.ref a,H,I,rfl,q⟩
def Uu(te:aY)(tl th:xr):aY:=λρ P=>te ρ λx=>tl ρ λlo=>th ρ λhi=>match x with
 | .tup l=>P (.tup (cutD l lo hi))
 |_=>False
theorem CJ{α:Type}{l:List α}{lo hi:Option Int}(h:HT.bD l.length 0 lo=0/\HT.bD l.length l.length hi=l.length):cutD l lo hi=l:=by
 unfold cutD;rw[h.1,h.2];simp
theorem CO(he:DE Z X e te)(hl:DO Z X lo tl)(hu:DO Z X hi th):DE Z X (.Subscript e (.Slice lo hi none p2) pos) (Uu te tl th):=by
 refine(tw (Fq.or Kr) he hl hu).imp ?_;rintro σ H Q ⟨G,ρ,P,s,en,h,q⟩;refine⟨G,ρ,_,s,en,h,λd hd v G1 H1 x1 dv=>?_⟩;refine⟨G1,ρ,_,x1.sub,en.mono x1.gg,hd,λl hl G2 H2 x2=>?_⟩;refine⟨G2,ρ,_,x2.sub,(en.mono x1.gg).mono x2.gg,hl,λu hu G3 H3 x3=>?_⟩;have x:=(x1.trans x2).trans x3;have dv:=(dv.mono x2.gg).mono x3.gg;cases dv<;>first|exact hu.elim|skip
 rename_i a xs ds h e
 by_cases w:HT.bD xs.length 0 l=0/\HT.bD xs.length xs.length u=xs.length
 ·have Dh:P (.tup ds):=by
   have hu:P (.tup (cutD ds l u)):=hu;rw[CJ (by rw[<-e.length];exact w)] at hu
   exact hu
  exact .inr ⟨_,_,rfl,eB.of (x3.sub _ _ h),w,q _ Dh _ G3 H3 x (.tup h e)⟩
 ·exact .inl ⟨_,_,rfl,eB.of (x3.sub _ _ h),w,λp hn=>q _ hu _ _ _ (x.trans (.new x3.sub hn)) (.tup au ((uJ e l u).mono (aV (x3.sub.free hn) _)))⟩
theorem yw{P:Program}{w:World}{K:PySem.W.Frag}{mg:Str->Option Value}{base:Heap}{f:Addr}{fd:FuncData}{ps:List Str}:FnOk P w K mg base bB 0 f fd ps (aF Z (λ_ _=>False)):=
 ⟨λvs H Q E h=>let ⟨_,_,_,_,_,z,_⟩:=h;z.elim,λA outer s H args us vs Q E _ _ _ _ h=>let ⟨_,_,_,_,_,z,_⟩:=h;z.elim⟩
end
end L2
namespace ZT
open PySem PyProof.Rows
structure NX (prog:Program) (w:World) (it src:Addr) (st:Nat->Heap->Prop) (val:Nat->Option Value):Prop where
 at_:∀i h h',st i h->(∀o,h.get? it=some o->h'.get? it=some o)->(∀o,h.get? src=some o->h'.get? src=some o)->st i h'
 lt:∀i h,st i h->it<h.objs.size
 item:∀(A:Around)(E:Value->Shared->Prop)(s:Shared)(i:Nat)(x:Value)(Q:Value->Shared->Prop),val i=some x->src≠it->st i s.heap->
  (∀h',st (i+1) h'->Heap.SameBut it s.heap h'->Q x {s with heap:=h'})->wpAny (model prog w) A (Builtin.SmallTypes.nextOf (.ref it)) Q E s
 stop:∀(A:Around)(E:Value->Shared->Prop)(s:Shared)(i:Nat)(Q:Value->Shared->Prop),A.handled=none->val i=none->src≠it->st i s.heap->
  (∀h' e,Heap.ExtBut it s.heap h'->(∃o,h'.get? e=some o/\o.cls= .type "StopIteration")->E (.ref e) {s with heap:=h'})->wpAny (model prog w) A (Builtin.SmallTypes.nextOf (.ref it)) Q E s
section
variable {prog:Program} {w:World}
theorem BG(it l:Addr)(xs:Array Value):NX prog w it l (λi h=>h.IsListIter it l i/\h.IsList l xs) (λi=>xs[i]?) where
 at_:=λi h h' st a b=>⟨st.1.at a,st.2.at b⟩
 lt:=λi h st=>by obtain⟨o,e,_⟩:=st.1;exact Heap.lt_size e
 item:=λA E s i x Q hv ne st hQ=>wpAny_nextOf_list_item st.1 st.2 hv λh' a sb=>hQ h' ⟨a,st.2.extBut sb.extBut ne⟩ sb
 stop:=λA E s i Q hh hv ne st hQ=>wpAny_nextOf_list_end hh st.1 st.2 hv hQ
theorem nextT{A:Around}{E:Value->Shared->Prop}{s:Shared}{it t:Addr}{i:Nat}{items:Array Value}{Q:Value->Shared->Prop}(hit:s.heap.IsTupleIter it t i)(ht:s.heap.IsTuple t items)
  (h1:∀x,items[i]? =some x->∀h',h'.IsTupleIter it t (i+1)->Heap.SameBut it s.heap h'->Q x {s with heap:=h'})
  (h2:items[i]? =none->A.handled=none/\∀h' e,Heap.ExtBut it s.heap h'->(∃o,h'.get? e=some o/\o.cls= .type "StopIteration")->E (.ref e) {s with heap:=h'}):
  wpAny (model prog w) A (Builtin.SmallTypes.nextOf (.ref it)) Q E s:=by
 have Bm:=hit.typeIs;obtain⟨o,ho,hc,hd⟩:=hit;obtain⟨ot,hot,_,nt,hdt⟩:=ht;unfold Builtin.SmallTypes.nextOf;refine wpAny_bind (wpAny_callSpecial?_slot (name:=Str.ofString "__next__") Bm F.slot_tuple_iterator_next (wpAny_call_entry F.slot_tuple_iterator_next Bm F.entry_tuple_iterator_next ?_ (F.args_tuple_iterator_next_1 _)));show wpAny _ _ (field (.ref it) 0>>=_) _ _ s;refine wpAny_bind (wpAny_field ho hd (x:= .ref t) rfl ?_);have no:¬((Value.ref t==Value.none)=true):=cB;show wpAny _ _ (if (Value.ref t==Value.none)=true then _ else _) _ _ s;rw[if_neg no];show wpAny _ _ (field (.ref it) 1>>=_) _ _ s;refine wpAny_bind (wpAny_field ho hd (x:= .int i 0) rfl ?_);show wpAny _ _ (seqItems? (.ref t)>>=_) _ _ s;refine wpAny_bind (wpAny_seqItems hot hdt ?_);cases hx:items[i]? with
 |some x=>
  simp only[og,hx];refine wpAny_bind (wpAny_setField ho hd (by simp) (wpAny_pure ⟨x,rfl,wpAny_pure (h1 x hx _ ?_ (Heap.SameBut.update ..))⟩))
  exact⟨_,Heap.get?_update_self _ ho (Obj.isFreed_of_fields (Obj.data_mapFields hd _)),(Obj.cls_mapFields ..).trans hc,by
   rw[Obj.data_mapFields hd];simp[rawInt]⟩
 |none=>
  obtain⟨hh,h2⟩:=h2 hx;simp only[og,hx];refine wpAny_bind (wpAny_rule (wpAny_bind (wpAny_setField ho hd (by simp) ?_)))
  show wpAny _ _ (newExc (.type "StopIteration") []>>=_) _ _ _;refine wpAny_bind ?_;simp only[newExc,newTuple];refine wpAny_bind (wpAny_newObj_type ?_ (by size_fits))
  refine wpAny_bind (m:=firstArgMember _ _) (wpAny_of_eq (a:=Value.none) (by first|rfl| (simp only[firstArgMember];rfl)) ?_)
  refine wpAny_newObj_type ?_ (by size_fits)
  simp only[raiseNew];refine wpAny_bind (wpAny_handled ?_)
  first|rw[show A.in1.handled=none from hh]|rw[hh]
  refine wpAny_bind (wpAny_pure (wpAny_throw ?_));exact h2 _ _ (((Heap.SameBut.update ..).extBut.push _).push _) ⟨_,Heap.get?_push_size _ rfl,rfl⟩
theorem Fb(it l:Addr)(xs:Array Value):NX prog w it l (λi h=>h.IsTupleIter it l i/\h.IsTuple l xs) (λi=>xs[i]?) where
 at_:=λi h h' st a b=>⟨st.1.at a,let ⟨o,ho,r⟩:=st.2;⟨o,b _ ho,r⟩⟩
 lt:=λi h st=>by obtain⟨o,e,_⟩:=st.1;exact Heap.lt_size e
 item:=λA E s i x Q hv ne st hQ=>nextT st.1 st.2 (λy hy h' a sb=>by
  have hv:xs[i]? =some x:=hv;rw[hv] at hy;cases hy;exact hQ h' ⟨a,st.2.extBut sb.extBut ne⟩ sb) (λz=>by
  have hv:xs[i]? =some x:=hv;rw[hv] at z;cases z)
 stop:=λA E s i Q hh hv ne st hQ=>nextT st.1 st.2 (λy hy=>by
  have hv:xs[i]? =none:=hv;rw[hv] at hy;cases hy) (λz=>⟨hh,hQ⟩)
end
section
variable {prog:Program} {w:World} {A:Around} {E:Value->Shared->Prop} {s:Shared} {B9 iC:Nat->Heap->Prop} {v1 v2:Nat->Option Value}
theorem hand{z TI TO:Addr}{x y:Value}{Q:Fin->Shared->Prop}{h:Heap}(zTO:TO≠z)(hz:IsZip h z TI TO .ellipsis)(pO:IsPair h TO x y)
  (hQ:∀h',IsZip h' z TI TO (rawInt h.objs.size)->IsPair h' h.objs.size x y->h'.objs.size=h.objs.size+1->(∀c o,c≠z->h.get? c=some o->h'.get? c=some o)->Q (.done (.ret (.ref h.objs.size))) {s with heap:=h'}):
  wpAny (model prog w) A (newTuple [x,y]>>=λr=>Builtin.SmallTypes.ownedTupleHandOut (.ref z) r>>=λ_=>(ret r:Sem Fin)) Q E {s with heap:=h}:=by
 have lz:z<h.objs.size:=Heap.lt_size hz;refine wpAny_bind (wpAny_newTuple ?_);refine wpAny_bind ?_;unfold Builtin.SmallTypes.ownedTupleHandOut;have z1:IsZip (h.push {cls:= .type "tuple",data:= .seq #[x,y]}) z TI TO .ellipsis:=Heap.get?_push_of_some _ hz;refine wpAny_bind (wpAny_setField_rec z1 (by simp) λg1 z2 b1=>?_)
 replace z2:IsZip g1 z TI TO (rawInt h.objs.size):=z2
 refine wpAny_setField_rec z2 (by simp) λg2 z3 b2=>?_
 replace z3:IsZip g2 z TI TO (rawInt h.objs.size):=z3
 refine wpAny_pure (hQ g2 z3 ?_ ?_ λc o c1 e=>b2.extBut _ _ c1 (b1.extBut _ _ c1 (Heap.get?_push_of_some _ e)))
 ·exact b2.extBut _ _ (Nat.ne_of_gt lz) (b1.extBut _ _ (Nat.ne_of_gt lz) (Heap.get?_push_size _ rfl))
 ·rw[b2.1,b1.1,Heap.size_push]
theorem aam{z TI TO i1 i2 l1 l2:Addr}{k:Nat}{a b:Value}{Q:Value->Shared->Prop}(N1:NX prog w i1 l1 B9 v1)(N2:NX prog w i2 l2 iC v2)(D:ZipApart z TI TO i1 i2 l1 l2)
  (hz:IsZip s.heap z TI TO .none) (pN:IsPair s.heap TI (.ref i1) (.ref i2)) (pO:IsPair s.heap TO a b) (h1:B9 k s.heap) (h2:iC k s.heap)
  (hI:∀x y,v1 k=some x->v2 k=some y->∀h',IsZip h' z TI TO (rawInt s.heap.objs.size)->IsPair h' TO x y->B9 (k+1) h'->iC (k+1) h'->IsPair h' s.heap.objs.size x y->h'.objs.size=s.heap.objs.size+1->
   (∀c o,c≠z->c≠TO->c≠i1->c≠i2->s.heap.get? c=some o->h'.get? c=some o)->Q (.ref s.heap.objs.size) {s with heap:=h'})
  (hE:v1 k=none\/v2 k=none->A.handled=none/\∀h' e,(∀c o,c≠z->c≠TO->c≠i1->c≠i2->s.heap.get? c=some o->h'.get? c=some o)->(∃o,h'.get? e=some o/\o.cls= .type "StopIteration")->E (.ref e) {s with heap:=h'}):
  wpAny (model prog w) A (Builtin.«zip.__next__» ⟨[.ref z],[]⟩) (λfin s'=>∃v,fin= .done (.ret v)/\Q v s') E s:=by
 show wpAny _ _ (field (.ref z) 2>>=_) _ _ _;refine wpAny_bind (wpAny_field hz rfl (x:= .bool false) rfl ?_);show wpAny _ _ (field (.ref z) 3>>=_) _ _ _;refine wpAny_bind (wpAny_field hz rfl (x:= .ref TI) rfl (wpAny_bind (wpAny_seqItems pN rfl ?_)));show wpAny _ _ (Builtin.SmallTypes.ownedTupleIsFree (.ref z)>>=_) _ _ _;refine wpAny_bind ?_;unfold Builtin.SmallTypes.ownedTupleIsFree;refine wpAny_bind (wpAny_field hz rfl (x:= .none) rfl (wpAny_pure ?_));simp only[if_true];refine wpAny_bind (wpAny_rule (wpAny_bind (wpAny_field hz rfl (x:= .ref TO) rfl (wpAny_bind (wpAny_setField_rec hz (by simp) λg1 z1 b1=>?_)))))
 replace z1:IsZip g1 z TI TO .ellipsis:=z1
 refine wpAny_bind ?_;simp only[List.zipIdx_cons,List.zipIdx_nil,List.forIn_cons,List.forIn_nil];refine wpAny_bind (wpAny_bind (wpAny_onRaise ?_));have q1:B9 k g1:=N1.at_ _ _ _ h1 (λo e=>b1.extBut _ _ D.i1z e) (λo e=>b1.extBut _ _ D.l1z e);have q2:iC k g1:=N2.at_ _ _ _ h2 (λo e=>b1.extBut _ _ D.i2z e) (λo e=>b1.extBut _ _ D.l2z e);show wpAny _ _ (Builtin.SmallTypes.nextOf (.ref i1)>>=_) _ _ _;cases hx:v1 k with
 |none=>
  obtain⟨hh,hE⟩:=hE (.inl hx);refine wpAny_bind (N1.stop _ _ {s with heap:=g1} k _ hh hx D.l1i1 q1 λg2 e b2 he=>?_)
  obtain⟨oe,C8,IK⟩:=he;have z2:IsZip g2 z TI TO .ellipsis:=b2 _ _ D.i1z.symm z1;have ez:e≠z:=λx=>by subst x;rw[z2] at C8;cases C8;simp at IK
  exact wpAny_setField_rec z2 (by simp) λg3 _ b3=>hE g3 e (λc o c1 _ c3 _ x=>b3.extBut _ _ c1 (b2 _ _ c3 (b1.extBut _ _ c1 x))) ⟨oe,b3.extBut _ _ ez C8,IK⟩
 |some x=>
  refine wpAny_bind (N1.item _ _ {s with heap:=g1} k x _ hx D.l1i1 q1 λg2 p1 b2=>wpAny_pure ?_)
  have t2:IsPair g2 TO a b:=b2.extBut _ _ D.TOi1 (b1.extBut _ _ D.TOz pO);refine wpAny_bind (wpAny_seqItems t2 rfl (wpAny_bind (wpAny_updateSeq_pair t2 λg3 t3 b3=>wpAny_bind (wpAny_letGo (wpAny_pure ?_)))))
  replace t3:IsPair g3 TO x b:=t3
  have q3:iC k g3:=N2.at_ _ _ _ q2 (λo e=>b3.extBut _ _ D.TOi2.symm (b2.extBut _ _ D.i12.symm e)) (λo e=>b3.extBut _ _ D.l2TO (b2.extBut _ _ D.l2i1 e));refine wpAny_bind (wpAny_bind (wpAny_onRaise ?_));show wpAny _ _ (Builtin.SmallTypes.nextOf (.ref i2)>>=_) _ _ _;cases hy:v2 k with
  |none=>
   obtain⟨hh,hE⟩:=hE (.inr hy);refine wpAny_bind (N2.stop _ _ {s with heap:=g3} k _ hh hy D.l2i2 q3 λg4 e b4 he=>?_)
   obtain⟨oe,C8,IK⟩:=he;have z4:IsZip g4 z TI TO .ellipsis:=b4 _ _ D.i2z.symm (b3.extBut _ _ D.TOz.symm (b2.extBut _ _ D.i1z.symm z1));have ez:e≠z:=λx=>by subst x;rw[z4] at C8;cases C8;simp at IK
   exact wpAny_setField_rec z4 (by simp) λg5 _ b5=>hE g5 e (λc o c1 c2 c3 c4 x=>b5.extBut _ _ c1 (b4 _ _ c4 (b3.extBut _ _ c2 (b2.extBut _ _ c3 (b1.extBut _ _ c1 x))))) ⟨oe,b5.extBut _ _ ez C8,IK⟩
  |some y=>
   refine wpAny_bind (N2.item _ _ {s with heap:=g3} k y _ hy D.l2i2 q3 λg4 p2 b4=>wpAny_pure ?_)
   have t4:IsPair g4 TO x b:=b4.extBut _ _ D.TOi2 t3;refine wpAny_bind (wpAny_seqItems t4 rfl (wpAny_bind (wpAny_updateSeq_pair t4 λg5 t5 b5=>wpAny_bind (wpAny_letGo (wpAny_pure (wpAny_pure ?_))))))
   replace t5:IsPair g5 TO x y:=t5
   refine wpAny_bind (wpAny_seqItems t5 rfl ?_);have sz:g5.objs.size=s.heap.objs.size:=by rw[b5.1,b4.1,b3.1,b2.1,b1.1]
   have z5:IsZip g5 z TI TO .ellipsis:=b5.extBut _ _ D.TOz.symm (b4.extBut _ _ D.i2z.symm (b3.extBut _ _ D.TOz.symm (b2.extBut _ _ D.i1z.symm z1)));have kp:∀c o,c≠z->c≠TO->c≠i1->c≠i2->s.heap.get? c=some o->g5.get? c=some o:=λc o c1 c2 c3 c4 e=>b5.extBut _ _ c2 (b4.extBut _ _ c4 (b3.extBut _ _ c2 (b2.extBut _ _ c3 (b1.extBut _ _ c1 e))));have r1:B9 (k+1) g5:=N1.at_ _ _ _ p1 (λo e=>b5.extBut _ _ D.TOi1.symm (b4.extBut _ _ D.i12 (b3.extBut _ _ D.TOi1.symm e))) (λo e=>b5.extBut _ _ D.l1TO (b4.extBut _ _ D.l1i2 (b3.extBut _ _ D.l1TO e)));have r2:iC (k+1) g5:=N2.at_ _ _ _ p2 (λo e=>b5.extBut _ _ D.TOi2.symm e) (λo e=>b5.extBut _ _ D.l2TO e);refine hand (s:=s) D.TOz z5 t5 λg6 z6 t6 s6 k6=>?_;rw[sz] at z6 t6 s6 ⊢;exact⟨_,rfl,hI x y hx hy g6 z6 (k6 _ _ D.TOz t5) (N1.at_ _ _ _ r1 (λo e=>k6 _ _ D.i1z e) (λo e=>k6 _ _ D.l1z e)) (N2.at_ _ _ _ r2 (λo e=>k6 _ _ D.i2z e) (λo e=>k6 _ _ D.l2z e)) t6 s6 λc o c1 c2 c3 c4 e=>k6 c o c1 (kp c o c1 c2 c3 c4 e)⟩
theorem wU{z TI TO i1 i2 l1 l2:Addr}{k:Nat}{a b:Value}{Q:Option Value->Shared->Prop}(N1:NX prog w i1 l1 B9 v1)(N2:NX prog w i2 l2 iC v2)(D:ZipApart z TI TO i1 i2 l1 l2)
  (hz:IsZip s.heap z TI TO .none) (pN:IsPair s.heap TI (.ref i1) (.ref i2)) (pO:IsPair s.heap TO a b) (h1:B9 k s.heap) (h2:iC k s.heap)
  (hI:∀x y,v1 k=some x->v2 k=some y->∀h',IsZip h' z TI TO (rawInt s.heap.objs.size)->IsPair h' TO x y->B9 (k+1) h'->iC (k+1) h'->IsPair h' s.heap.objs.size x y->h'.objs.size=s.heap.objs.size+1->
   (∀c o,c≠z->c≠TO->c≠i1->c≠i2->s.heap.get? c=some o->h'.get? c=some o)->Q (some (.ref s.heap.objs.size)) {s with heap:=h'})
  (hE:v1 k=none\/v2 k=none->A.handled=none/\∀h',(∀c o,c≠z->c≠TO->c≠i1->c≠i2->s.heap.get? c=some o->h'.get? c=some o)->Q none {s with heap:=h'}):wpAny (model prog w) A (pyNext (.ref z)) Q E s:=by
 have hT:s.TypeIs (.ref z) "zip":=⟨_,hz,rfl⟩;unfold pyNext
 refine wpAny_bind (wpAny_attempt (wpAny_callSpecial?_slot (name:=Str.ofString "__next__") hT F.slot_zip_next
  (wpAny_call_entry F.slot_zip_next hT F.entry_zip_next (aam N1 N2 D hz pN pO h1 h2 (λx y hx hy h' a1 a2 a3 a4 a5 a6 a7=>wpAny_pure (hI x y hx hy h' a1 a2 a3 a4 a5 a6 a7)) λn=>?_) (F.args_zip_next_1 _))))
 obtain⟨hh,hE⟩:=hE n;refine⟨hh,λh' e hk he=>?_⟩;obtain⟨o,ho,hc⟩:=he;exact wpAny_bind (wpAny_isInstance (T:="StopIteration") (b:=true) ⟨o,ho,hc⟩ isSubtype_stop (wpAny_pure (hE _ hk)))
end
abbrev g1(h:Heap)(a:Addr):Heap:=h.push {cls:= .type "list_iterator",data:= .fields #[.ref a, .int 0 0]}
abbrev g2(h:Heap)(a b:Addr):Heap:=(g1 h a).push {cls:= .type "tuple_iterator",data:= .fields #[.ref b, .int 0 0]}
abbrev g3(h:Heap)(a b:Addr):Heap:=(g2 h a b).push {cls:= .type "tuple",data:= .seq #[.ref h.objs.size, .ref (g1 h a).objs.size]}
abbrev g4(h:Heap)(a b:Addr):Heap:=(g3 h a b).push {cls:= .type "tuple",data:= .seq #[.none, .none]}
abbrev g5(h:Heap)(a b:Addr):Heap:=(g4 h a b).push {cls:= .type "zip",data:= .fields #[.none, .bool false, .bool false, .ref (g2 h a b).objs.size, .ref (g3 h a b).objs.size]}
theorem Xh(a b:Addr)(xs ys:Array Value):
  Meets (Builtin.«zip.__new__» ⟨[.type "zip", .ref a, .ref b],[]⟩) (λ_ R s=>s.heap.IsList a xs/\s.heap.IsTuple b ys/\R (.ok (.ret (.ref (g4 s.heap a b).objs.size))) {s with heap:=g5 s.heap a b}):=
 .of_wp λprog w A R s h=>by
  obtain⟨hp,g,d,tk,os⟩:=s;obtain⟨ha,hb,h⟩:=h;have OG:=sub_zip;have h1:Heap.IsList (Shared.heap ⟨hp,g,d,tk,os⟩) a xs:=ha;have h2:Heap.IsTuple (Shared.heap ⟨hp.push {cls:= .type "list_iterator",data:= .fields #[.ref a, .int 0 0]},g,d,tk,os⟩) b ys:=Heap.IsTuple.push hb _
  wp_walk using wpAny_pyIter_list h1,wpAny_pyIter_tuple h2
  exact⟨_,rfl,h⟩
section
variable {prog:Program} {w:World} {A:Around} {E:Value->Shared->Prop} {s:Shared}
theorem Pa{a b:Addr}{xs ys:Array Value}{Q:Value->Shared->Prop}(ha:s.heap.IsList a xs)(hb:s.heap.IsTuple b ys)
  (h:∀h' n,n=s.heap.objs.size->IsZip h' (n+4) (n+2) (n+3) .none->IsPair h' (n+2) (.ref n) (.ref (n+1))->IsPair h' (n+3) .none .none->h'.IsListIter n a 0->h'.IsTupleIter (n+1) b 0->
   (∀c o,s.heap.get? c=some o->h'.get? c=some o)->Q (.ref (n+4)) {s with heap:=h'}):
  wpAny (model prog w) A (call (.type "zip") [.ref a, .ref b]) Q E s:=by
 refine callType_new F.called_zip (by decide) (F.typeCall_zip_2 _ _) (F.newCall_zip_2 _ _) (λobj=>F.args_object_init_3 obj _ _) F.entry_zip_new (Xh a b xs ys) ⟨ha,hb,?_⟩
 have z1:(g1 s.heap a).objs.size=s.heap.objs.size+1:=Heap.size_push ..;have z2:(g2 s.heap a b).objs.size=s.heap.objs.size+2:=by rw[Heap.size_push,z1]
 have z3:(g3 s.heap a b).objs.size=s.heap.objs.size+3:=by rw[Heap.size_push,z2]
 have z4:(g4 s.heap a b).objs.size=s.heap.objs.size+4:=by rw[Heap.size_push,z3]
 have up:∀{hh:Heap}{c:Addr}{o:Obj}(x:Obj),hh.get? c=some o->(hh.push x).get? c=some o:=λx e=>Heap.get?_push_of_some x e;have y5:(g5 s.heap a b).get? (g4 s.heap a b).objs.size=some _:=Heap.get?_push_size _ rfl;have y4:(g5 s.heap a b).get? (g3 s.heap a b).objs.size=some _:=up _ (Heap.get?_push_size _ rfl);have y3:(g5 s.heap a b).get? (g2 s.heap a b).objs.size=some _:=up _ (up _ (Heap.get?_push_size _ rfl));have y2:(g5 s.heap a b).get? (g1 s.heap a).objs.size=some _:=up _ (up _ (up _ (Heap.get?_push_size _ rfl)));have y1:(g5 s.heap a b).get? s.heap.objs.size=some _:=up _ (up _ (up _ (up _ (Heap.get?_push_size _ rfl))));show _/\_;rw[z2,z3,z4] at y5;rw[z1,z2] at y3;rw[z3] at y4;rw[z1] at y2;rw[z4];exact⟨⟨_,y5,rfl⟩,h _ _ rfl y5 y3 y4 ⟨_,y1,rfl,rfl⟩ ⟨_,y2,rfl,rfl⟩ λc o x=>up _ (up _ (up _ (up _ (up _ x))))⟩
end
end ZT
namespace L2
open PySem PySem.Spec PyProof.Rows
def Hu(a b:Addr):It:=
 ⟨λi H=>∃xs ys x y,H a=some (.lst xs)/\H b=some (.tup ys)/\xs[i]? =some x/\ys[i]? =some y,
  λi H v H'=>∃t x y,v= .ref t/\H t=none/\H'=upd H t (.tup [x,y])/\(∀xs,H a=some (.lst xs)->xs[i]? =some x)/\∀ys,H b=some (.tup ys)->ys[i]? =some y,
  λi H=>∃xs ys,H a=some (.lst xs)/\H b=some (.tup ys)/\(xs.length<=i\/ys.length<=i)⟩
theorem ZN.apart{z TI TO i1 i2 l1 l2:Addr}(N:ZN z TI TO i1 i2)(h1:∀b∈ [z,TO,i1,i2,TI],l1≠b)(h2:∀b∈ [z,TO,i1,i2,TI],l2≠b):ZipApart z TI TO i1 i2 l1 l2:=
 ⟨N.TIz,N.TOz,N.i1z,N.i2z,N.TITO,N.TIi1,N.TIi2,N.TOi1,N.TOi2,N.i12,h1 z (by simp),h1 TO (by simp),h1 i1 (by simp),h1 i2 (by simp),h2 z (by simp),h2 TO (by simp),h2 i1 (by simp),h2 i2 (by simp)⟩
theorem Er{P:Program}{w:World}{K:PySem.W.Frag}{es:List Expr}{k1}{tp:Pos}(l1 l2 z TI TO i1 i2:Addr)(N:ZN z TI TO i1 i2):
  Turn P w K (.Tuple es k1 tp) (Hu l1 l2) [z,TO,i1,i2,TI] z (λi h=>IsZip h z TI TO .none/\IsPair h TI (.ref i1) (.ref i2)/\(∃a b,IsPair h TO a b)/\h.IsListIter i1 l1 i/\h.IsTupleIter i2 l2 i) where
 mem:=by simp
 obj:=λi h ⟨hz,pN,⟨a,c,pO⟩,⟨o1,e1,_,d1⟩,⟨o2,e2,_,d2⟩⟩ b hb=>by
  simp only[cD,iK,or_false] at hb
  rcases hb with rfl|rfl|rfl|rfl|rfl
  ·exact⟨_,hz,λv w=>by cases w⟩
  ·exact⟨_,pO,λv w=>by cases w⟩
  ·exact⟨o1,e1,λv z=>by rw[d1] at z;cases z⟩
  ·exact⟨o2,e2,λv z=>by rw[d2] at z;cases z⟩
  ·exact⟨_,pN,λv w=>by cases w⟩
 keep:=λi h h' ⟨hz,pN,⟨a,c,pO⟩,h1,h2⟩ k=>
  ⟨k z (by simp) _ hz,k TI (by simp) _ pN,⟨a,c,k TO (by simp) _ pO⟩,h1.at λo q=>k i1 (by simp) o q,h2.at λo q=>k i2 (by simp) o q⟩
 item:=by
  intro X hP hw hK hc i pins s σ H E I hf st hg;subst hP hw hK;obtain⟨xs,ys,x,y,Gn,Gp,hx,hy⟩:=hg;obtain⟨tV,M1,p1,Wg⟩:=I.list (bX.of Gn);obtain⟨jj,M3,p2,LY⟩:=I.tuple (eB.of Gp);obtain⟨u1,QX,RK⟩:=M1.get hx;obtain⟨u2,Di,RL⟩:=M3.get hy;obtain⟨hz,pN,⟨a,c,pO⟩,h1,h2⟩:=st;have nf:∀l u,H l=some u->∀b∈ [z,TO,i1,i2,TI],l≠b:=λl u e b hb q=>by rw[q,(hf b hb).1] at e;cases e
  have lt:∀b∈ [z,TO,i1,i2,TI],b<s.heap.objs.size:=λb hb=>by
   simp only[cD,iK,or_false] at hb
   rcases hb with rfl|rfl|rfl|rfl|rfl
   ·exact Heap.lt_size hz
   ·exact Heap.lt_size pO
   ·obtain⟨o,e,_⟩:=h1;exact Heap.lt_size e
   ·obtain⟨o,e,_⟩:=h2;exact Heap.lt_size e
   ·exact Heap.lt_size pN
  have t2:s.heap.IsTuple l2 jj.toArray:=p2;have w1:tV.toArray[i]? =some u1:=by simpa using QX
  have w2:jj.toArray[i]? =some u2:=by simpa using Di
  refine ZT.wU (ZT.BG i1 l1 tV.toArray) (ZT.Fb i2 l2 jj.toArray) (N.apart (nf _ _ Gn) (nf _ _ Gp)) hz pN pO ⟨h1,p1.isList⟩ ⟨h2,t2⟩ (λx' y' e1 e2 h' Jc VC F8 Qs QV V7 kk=>?_) (λn=>?_)
  ·have e1:tV.toArray[i]? =some x':=e1
   have e2:jj.toArray[i]? =some y':=e2;rw[w1] at e1;cases e1;rw[w2] at e2;cases e2;have k2:∀b o,b∉ [z,TO,i1,i2,TI]->s.heap.get? b=some o->h'.get? b=some o:=λb o hb q=>kk b o (λz=>hb (by simp[z])) (λz=>hb (by simp[z])) (λz=>hb (by simp[z])) (λz=>hb (by simp[z])) q
   have I1:Inv X pins σ (upd H s.heap.objs.size (.tup [x,y])) {s with heap:=h',toks:=s.toks}:=
    I.Cg hf k2 (br _) ⟨by show 2<=sizeLine;decide,[u1,u2], .cons RK (.cons RL .nil),tU QV⟩
   refine⟨_,rfl,wpAny_letOwnedTupleGo_zip Jc λh2 LY sb=>?_⟩;have IQ:∀b∈ [z,TO,i1,i2,TI],fo X pins (upd H s.heap.objs.size (.tup [x,y])) b:=λb hb=>⟨by rw[aw (cH (lt b hb))];exact(hf b hb).1,(hf b hb).2⟩
   refine⟨.ref s.heap.objs.size,_,I1.rV (t':=s.toks) IQ (λb o hb q=>sb.extBut b o (λz=>hb (by simp[z])) q),rfl,⟨_,x,y,rfl,I.hok.fresh (br _),rfl,λys hy=>?_,λys zZ=>?_⟩,
    ⟨LY,sb.extBut _ _ N.TIz (kk TI _ N.TIz N.TITO N.TIi1 N.TIi2 pN),⟨_,_,sb.extBut _ _ N.TOz VC⟩,F8.1.extBut sb.extBut N.i1z,Qs.1.extBut sb.extBut N.i2z⟩,λb hb=>(IQ b hb).1⟩
   ·rw[Gn] at hy;cases hy;exact hx
   ·rw[Gp] at zZ;cases zZ;exact hy
  ·rcases n with n|n
   ·have n:tV.toArray[i]? =none:=n
    rw[w1] at n;cases n
   ·have n:jj.toArray[i]? =none:=n
    rw[w2] at n;cases n
 done:=by
  intro X hP hw hK hc i pins s σ H E I hf st hg;subst hP hw hK;obtain⟨xs,ys,Gn,Gp,hx⟩:=hg;obtain⟨tV,M1,p1,Wg⟩:=I.list (bX.of Gn);obtain⟨jj,M3,p2,LY⟩:=I.tuple (eB.of Gp);have LR:=M1.length;have IV:=M3.length;obtain⟨hz,pN,⟨a,c,pO⟩,h1,h2⟩:=st;have nf:∀l u,H l=some u->∀b∈ [z,TO,i1,i2,TI],l≠b:=λl u e b hb q=>by rw[q,(hf b hb).1] at e;cases e
  have t2:s.heap.IsTuple l2 jj.toArray:=p2;refine ZT.wU (ZT.BG i1 l1 tV.toArray) (ZT.Fb i2 l2 jj.toArray) (N.apart (nf _ _ Gn) (nf _ _ Gp)) hz pN pO ⟨h1,p1.isList⟩ ⟨h2,t2⟩ (λx' y' e1 e2=>?_) (λn=>⟨I.ok.hd hc,λh' kk=>⟨rfl,I.rV (t':=s.toks) hf λb o hb q=>kk b o (λz=>hb (by simp[z])) (λz=>hb (by simp[z])) (λz=>hb (by simp[z])) (λz=>hb (by simp[z])) q⟩⟩)
  have e1:tV.toArray[i]? =some x':=e1;have e2:jj.toArray[i]? =some y':=e2;have m1:=(w6.mp e1).1;have m2:=(w6.mp e2).1;rw[fe] at m1 m2;omega
 self:=λ_ _ _ _ _ st h=>wpAny_pyIter_zip st.1 h
section
variable {X:Cx}
def Q6(ta:TA):TI:=λσ H R=>ta σ H λvs H1=>∃a b xs ys,vs= [.ref a, .ref b]/\H1 a=some (.lst xs)/\H1 b=some (.tup ys)/\R (Hu a b) H1
theorem J6{a b:Expr}{ta:TA}{p pos:Pos}{es:List Expr}{k1}{tp:Pos}(hg:Gl X "zip")(hm:X.mg "zip"=none)(ha:PA X [a,b] ta)(hs:starEach [a,b] X.env= [(false,eval a X.env),(false,eval b X.env)]:=by rfl)(gT:starEach [b] X.env= [(false,eval b X.env)]:=by rfl):
  PI X (.Tuple es k1 tp) (.Call (.Name "zip" p) [a,b] [] pos) (Q6 ta):=by
 intro pins s σ H R I h;refine Call_ (hU I hg hm (show bootBuiltins "zip"=some (.type "zip") by decide+kernel) (PyProof.Rows.callWith_type1 (thn (ha pos pins s σ H _ I h) λus s1 ⟨vs,H1,I1,r1,q1⟩=>?_) (by rw[hs,gT]) (by rw[gT];rfl)))
 obtain⟨l1,l2,xs,ys,e,LR,IV,q⟩:=q1;subst e;obtain⟨u1,u2,rfl,RK,RL⟩:=r1.two;cases RK;cases RL;obtain⟨tV,M1,p1,Wg⟩:=I1.list (bX.of LR);obtain⟨jj,M3,p2,LY⟩:=I1.tuple (eB.of IV);refine ZT.Pa p1.isList (show s1.heap.IsTuple l2 jj.toArray from p2) λh' n en hz pN pO h1 h2 kk=>?_;refine wpAny_pyIter_zip hz ?_;refine⟨_,_,_,_,H1,rfl,I1.kept (t':=s1.toks) kk,Er l1 l2 (n+4) (n+2) (n+3) n (n+1) ?_,⟨hz,pN,⟨_,_,pO⟩,h1,h2⟩,λb hb=>?_,q⟩
 ·exact⟨show n+2≠n+4 by omega,show n+3≠n+4 by omega,show n≠n+4 by omega,show n+1≠n+4 by omega,show n+2≠n+3 by omega,show n+2≠n by omega,show n+2≠n+1 by omega,show n+3≠n by omega,show n+3≠n+1 by omega,show n≠n+1 by omega⟩
 ·have sN:s1.heap.objs.size<=b:=by
   rw[<-en];simp only[cD,iK,or_false] at hb
   rcases hb with z|z|z|z|z<;>(rw[z];show n<=_;omega)
  exact I1.EU sN (I1.hok.fresh sN)
end
section
variable {Z:DC} {X:Cx} {a b:Expr} {t:gq} {pos:Pos}
def LA(t:gq):iM:=λρ P=>t ρ λds=>match ds with
 | [.lst l, .tup m]=>P (rY l m)
 |_=>False
theorem Ji{G:Hp}{a b:Addr}{xs ys:List V}{ds es:List D}(h:G a=some (.lst xs))(e:DvAll Z G xs ds)(h':G b=some (.tup ys))(e':DvAll Z G ys es):tI Z G (Hu a b) (rY ds es):=by
 intro G2 H2 s1 s2 i;have h2:=s2 _ _ (s1 _ _ h);have h3:=s2 _ _ (s1 _ _ h');have l:=e.length;have l':=e'.length;rw[show(rY ds es).length=min ds.length es.length by unfold rY;simp]
 refine⟨λhi=>⟨xs,ys,xs[i]'(by omega),ys[i]'(by omega),h2,h3,bL (by omega),bL (by omega)⟩,λhi=>⟨xs,ys,h2,h3,by omega⟩,?_⟩
 rintro x H' hi ⟨t,y,z,rfl,ht,rfl,hx,hy⟩;obtain⟨d,hd,dv⟩:=e.Be (hx _ h2);obtain⟨d',jf,lD⟩:=e'.Be (hy _ h3);refine⟨_,_, .new s2 ht,by unfold rY;rw[List.getElem?_zipWith,hd,jf],?_⟩
 have sn:=aV (s2.free ht) (.tup [y,z]);exact .tup au (.cons ((dv.mono s1).mono sn) (.cons ((lD.mono s1).mono sn) .nil))
theorem Ij{p:Pos}{es:List Expr}{k1}{tp:Pos}(hg:Gl X "zip")(hm:X.mg "zip"=none)(ha:DA Z X [a,b] t)(hs:starEach [a,b] X.env= [(false,eval a X.env),(false,eval b X.env)]:=by rfl)(gT:starEach [b] X.env= [(false,eval b X.env)]:=by rfl):DI Z X (.Tuple es k1 tp) (.Call (.Name "zip" p) [a,b] [] pos) (LA t):=by
 refine(J6 hg hm ha hs gT).imp ?_;rintro σ H Q ⟨G,ρ,P,s,en,h,q⟩;refine⟨G,ρ,_,s,en,h,λds hd vs G1 H1 x1 dv=>?_⟩
 split at hd
 ·obtain⟨u1,u2,rfl,da,db⟩:=dv.Af
  obtain⟨_,_,rfl,ha,e⟩:=da.iq;obtain⟨_,_,rfl,hb,e'⟩:=db.lG;exact⟨_,_,_,_,rfl,x1.sub _ _ ha,x1.sub _ _ hb,q _ hd _ G1 H1 x1 (Ji ha e hb e')⟩
 ·exact hd.elim
def Oi:fW:=λx y P=>match x,y with
 | .bl b, .bl c=>P (.bl (b==c))
 |_,_=>False
theorem Mv:OpR X (compareOp .Is) (λx y H Q=>∃b c,x= .bl b/\y= .bl c/\Q (.bl (b==c)) H):=by
 intro pins s σ H x y v u Q I rx ry h;obtain⟨b,c,rfl,rfl,q⟩:=h;cases rx;cases ry;exact is_bool (zO I q rfl)
theorem Mo:OpR X (compareOp .Is) (bR Z Oi):=by
 refine Mv.imp ?_;rintro x y H Q ⟨G,a,b,P,s,da,db,hr,q⟩;unfold Oi at hr
 split at hr
 ·exact⟨_,_,da.yQ,db.yQ,q _ hr _ _ _ (.refl s) (.bl _)⟩
 ·exact hr.elim
end
section
variable {Z:DC} {X:Cx} {a:Expr} {ta:aY} {te:TE} {pos:Pos}
theorem J2(ha:PE X a te):PE X (.UnaryOp .Not a pos) (λσ H Q=>te σ H λx H'=>∃k,HC X.K x H' k/\Q (.bl (!k)) H'):=by
 intro pins s σ H Q I h;refine UnaryOp_ (thn (ha pins s σ H _ I h) λv s1 ⟨x,H1,I1,r1,q1⟩=>?_);obtain⟨k,hk,q⟩:=q1
 exact not_of (thn (Fw pins s1 σ H1 x v (λc H'=>c=k/\H'=H1) I1 r1 ⟨k,hk,rfl,rfl⟩) λc s2 ⟨H2,I2,e1,e2⟩=>by
  subst e1 e2;exact⟨.bl (!c),H2,I2,rfl,q⟩)
def P4(ta:aY):aY:=λρ P=>ta ρ λd=>Je d=true/\P (.bl (!mD d))
theorem Ib(ha:DE Z X a ta):DE Z X (.UnaryOp .Not a pos) (P4 ta):=by
 refine(J2 ha).imp ?_;rintro σ H Q ⟨G,ρ,P,s,e,h,q⟩;refine⟨G,ρ,_,s,e,h,?_⟩;rintro d ⟨hd,p⟩ v G1 H1 x1 dv;refine⟨mD d,?_,q _ p _ G1 H1 x1 (.bl _)⟩;cases dv with
 |aZ=>rfl
 |bl b=>rfl
 |int i=>rfl
 |lst h a=>exact .inl ⟨_,bX.of (x1.sub _ _ h),by rw[jJ a];rfl⟩
 |tup h a=>exact .inr (.inl ⟨_,eB.of (x1.sub _ _ h),by rw[jJ a];rfl⟩)
 |_=>cases hd
end
end L2
set_option maxHeartbeats 4000000
namespace lg
open PySem L2 Wb
variable {P:Program} {w:World} {mg:Str->Option Value} {base:Heap} {Z:DC} (T:Txt Z mg)
open Wy Ws
def cj:Option Int->D
 |none=> .aZ
 |some d=> .int d
def oN(dy:Dy):D:= .lst (dy.map cj)
def mJ(ls:List (List Int)):D:= .lst (ls.map λl=> .lst (cm l))
mutual
def tW:lq->D
 | .full p=> .tup [.str "full",ag p]
 | .mR p ps=> .tup [.str "choose",ag p, .tup (nu ps)]
def nu:List (Option lq)->List D
 | []=> []
 |o::os=>wo o::nu os
def wo:Option lq->D
 |none=> .aZ
 |some q=>tW q
end
theorem wq:∀ps:List (Option lq),nu ps=ps.map wo
 | []=>by rw[nu];rfl
 |o::os=>by rw[nu,wq os];rfl
structure Sz (w:W) (ls:List (List Int)) (dy:Dy):Prop where
 g:Good w
 n1:1<=w.length
 n8:w.length<=8
 ll:ls.length=w.length
 ld:dy.length=w.length
 lr:∀p,(lst ls p).length<=100
 rl:∀p,(row w p).length<=100
theorem oG{ls:List (List Int)}{p:Nat}(h:p<ls.length):(ls.map λl=>D.lst (cm l))[p]? =some (.lst (cm (lst ls p))):=by
 unfold lst;rw[cL,bL h,bb,bL h];rfl
theorem jH{dy:Dy}{p:Nat}(h:p<dy.length):(dy.map cj)[p]? =some (cj (bY dy p)):=by
 unfold bY;rw[cL,bL h,bb,bL h];rfl
theorem yt(l:List (Option Int)):(l.map cj).all df=true:=by
 rw[List.all_map,jZ];intro o _;cases o<;>rfl
theorem Bn{l:List (Option Int)}{d:Int}:inD (.int d) (l.map cj)=decide (some d∈l):=by
 unfold inD;rw[List.any_map]
 have:((λy=>fN y (.int d))∘cj)=λo:Option Int=>decide (o=some d):=by
  funext o
  cases o with
  |none=>simp[cj,fN,Function.comp]
  |some e=>
   simp[cj,fN,Function.comp]
   by_cases h:e=d<;>simp[h]
 rw[this];rw[Bool.eq_iff_iff];simp
theorem vK{l:List Int}{d:Int}:inD (.int d) (cm l)=decide (d∈l):=by
 unfold inD cm;rw[List.any_map]
 have:((λy=>fN y (.int d))∘D.int)=λo:Int=>decide (o=d):=by
  funext o
  simp[fN,Function.comp]
  by_cases h:o=d<;>simp[h]
 rw[this,Bool.eq_iff_iff];simp
theorem jI(l:List Int):(cm l).all df=true:=by simp[cm,df]
def Nc:bP:=λds P=>∃(w:W)(ls:List (List Int))(dy:Dy)(p:Nat),ds= [ay w,mJ ls,oN dy,ag p]/\Sz w ls dy/\p<w.length/\P (.lst (cm (left w ls dy p)))
theorem hV:FnOk P w Z.K mg base bB 1 T.d_dyes_left.f T.d_dyes_left.fd ["turns","lists","dyeing","p"] (aF Z Nc):=by
 have nd:=o9.nd;refine aP T.d_dyes_left.F o9 [0,0,0,0,0] (by decide) (λds R h=>by obtain⟨_,_,_,_,rfl,_⟩:=h;rfl) (λbc A outer s H E ds R hr h=>?_)
 have hu:=hr.units
 refine⟨_,(af (aH false 4 nd (jc (NC:= ["q","dyeing"]) (src:= [none,some 2]) rfl (lB (aq gB)) ⟨rfl,rfl,trivial⟩ (bG (aJ (aa 0) (aa 3))) (λ_ _ _=>(bF 0 (show(["q","dyeing"]:List Str).Nodup from by decide+kernel))) (λ_ _ _=>cZ) (λ_ _ _=>(aJ (aa 1) (aa 0)))))
   (ai (aE (jc (NC:= ["dye","taken"]) (src:= [none,some 4]) rfl (lB (aq gB)) ⟨rfl,rfl,trivial⟩ (bG (aJ (aa 1) (aa 3))) (λ_ _ _=>(bF 0 (show(["dye","taken"]:List Str).Nodup from by decide+kernel))) (λ_ _ _=>(mU (aK kK (aa 0) (aa 1) (by with_unfolding_all rfl)))) (λ_ _ _=>(aa 0)))))),?_⟩
 obtain⟨w',ls,dy,p,rfl,z,hp,q⟩:=h;refine⟨_,rfl,_,rfl,_,bC (kU hp),fU (ρ:= [none,some (oN dy)]) ag (λq=>cj (bY dy q)) (row w' p) _ (λy hy Y h=>?_) rfl (small (by have:=z.rl p;omega)) λaD=>⟨trivial,?_⟩⟩
 ·exact⟨_,rfl,_,rfl,_,bC (jH (by rw[z.ld];exact z.g.rng _ _ hy)),h⟩
 have e0:(row w' p).map (λq=>cj (bY dy q))=((row w' p).map λq=>bY dy q).map cj:=by rw[dX];rfl
 rw[e0];refine⟨_,rfl,_,rfl,_,bC (oG (by rw[z.ll];exact hp)),qN (ρ:= [none,some (.lst (((row w' p).map λq=>bY dy q).map cj))]) D.int (λd=>!decide (some d∈(row w' p).map λq=>bY dy q)) D.int (lst ls p) _ [] _ (λy hy Y Nn t1 t2=>?_) ⟨none,rfl⟩ (by have:=z.lr p;simp;exact small (by omega)) λaD=>?_⟩
 ·refine⟨_,rfl,_,rfl,rfl,yt _,_,rfl,?_⟩
  rw[if_pos rfl,Bn];exact bN (λe=>⟨_,rfl,t1 e⟩) (λe=>t2 e)
 ·rw[ue]
  exact q
def Eh:bP:=λds P=>∃(dy:Dy)(p:Nat)(d:Int),ds= [oN dy,ag p, .int d]/\p<dy.length/\dy.length<=8/\P (oN (dy.set p (some d)))
theorem qY:FnOk P w Z.K mg base bB 1 T.d_with_dye.f T.d_with_dye.fd ["dyeing","p","dye"] (aF Z Eh):=by
 have nd:=rQ.nd;refine aP T.d_with_dye.F rQ [0,0,0] (by decide) (λds R h=>by obtain⟨_,_,_,rfl,_⟩:=h;rfl) (λbc A outer s H E ds R hr h=>?_)
 have hu:=hr.units;refine⟨_,(ai (aE (az ba (az ba (cR (aa 0) cX (cY (aa 1))) (di (ab (aa 2) ae))) (cR (aa 0) (cY (az ba (aa 1) ao)) cX)))),?_⟩;obtain⟨dy,p,d,rfl,hp,h8,q⟩:=h;have Qg:cutD (dy.map cj) none (some (p:Int))=(dy.take p).map cj:=by rw[fZ _ _ (by simp;omega),r9]
 have Vf:cutD (dy.map cj) (some ((p:Int)+1)) none=(dy.drop (p+1)).map cj:=by
  have:=fY (dy.map cj) (p+1) (by simp;omega)
  rw[sg,<-this];rfl
 have l1:(dy.take p).length<=8:=by rw[fj];omega
 have l2:(dy.drop (p+1)).length<=8:=by rw[kY];omega
 refine⟨_,rfl,_,rfl,_,rfl,by show 1<=sizeLine;decide,small ?_,_,rfl,_,rfl,small ?_,?_⟩
 ·rw[Qg,aI];show _+1<=1000;omega
 ·rw[Qg]
  refine(?_:_+(cutD (dy.map cj) (some ((p:Int)+1)) none).length<=1000);rw[Vf,dG,aI,aI];show _+1+_<=1000;omega
 ·refine(?_:R (.lst (cutD (dy.map cj) none (some (p:Int))++ [.int d]++cutD (dy.map cj) (some ((p:Int)+1)) none)))
  rw[Qg,Vf]
  have:(dy.take p).map cj++ [.int d]++(dy.drop (p+1)).map cj=(dy.set p (some d)).map cj:=by
   rw[<-Kp dy p (some d) hp,fc,fc];rfl
  rw[this];exact q
theorem Ip(dy:Dy):fv (dy.map cj)=(List.range dy.length).map λ(p:Nat)=>D.tup [.int (p:Int),cj (bY dy p)]:=by
 refine xj λi=>?_;rw[cL]
 by_cases h:i<dy.length
 ·rw[ud h]
  have hl:i<(fv (dy.map cj)).length:=by rw[gR,aI];exact h
  rw[bL hl];obtain⟨x,hx,e⟩:=f9 (bL hl);rw[jH h] at hx;cases hx;rw[e];rfl
 ·rw[eQ (by rw[gR,aI];omega),eQ (by simpa using gH h)];rfl
def Hg:bP:=λds P=>∃(w:W)(ls:List (List Int))(dy:Dy),ds= [ay w,mJ ls,oN dy]/\Sz w ls dy/\((∀p,p<w.length->bY dy p≠none)->P .aZ)/\∀p,p<w.length->bY dy p=none->P (ag p)
theorem tm:FnOk P w Z.K mg base bB 2 T.d_chosen_point.f T.d_chosen_point.fd ["turns","lists","dyeing"] (aF Z Hg):=by
 have nd:=kP.nd;refine aP T.d_chosen_point.F kP [0,0,0,0] (by decide) (λds R h=>by obtain⟨_,_,_,rfl,_⟩:=h;rfl) (λbc A outer s H E ds R hr h=>?_)
 have hu:=hr.units
 refine⟨_,(af (yi 3 (NC:= ["p","dye","turns","lists","dyeing"]) (src:= [none,none,some 0,some 1,some 2]) rfl nd (lB (aq fV)) ⟨rfl,rfl,rfl,rfl,rfl,rfl,trivial⟩ (eC rfl T.B.enumerate (ab (aa 2) ae)) (λ_ _ _=>(uL 2 rfl (gk (bF 0 (show(["p","dye","turns","lists","dyeing"]:List Str).Nodup from by decide+kernel)) (gk (bF 1 (show(["p","dye","turns","lists","dyeing"]:List Str).Nodup from by decide+kernel)) qz)))) (λ_ _ _=>(mU (aK pU (aa 1) cg (aR _)))) (λ_ _ _=>(cG (ab (aA aX rfl T.B.len aW (ab (ax T.d_dyes_left (hV T) hr (ab (aa 2) (ab (aa 3) (ab (aa 4) (ab (aa 0) ae))))) ae)) (ab (aa 0) ae)))))
   (ai (aE (Qc (eU (aa 3)) (aJ (aA (HQ rfl hu) rfl T.B.min Li (ab (aa 3) ae)) ao) cg)))),?_⟩
 obtain⟨w',ls,dy,rfl,z,q1,q2⟩:=h;refine⟨_,rfl,?_⟩;refine(?_:lcW _ _ _ (fv (dy.map cj)) _ _ _);rw[Ip];refine jK (λρ=>∃o0 o1,ρ= [o0,o1,some (ay w'),some (mJ ls),some (oN dy)]) (λ(p:Nat)=>D.tup [.int (p:Int),cj (bY dy p)]) (λp=>(bY dy p).isNone) (λp=>tupI [((left w' ls dy p).length:Int),(p:Int)]) _ _ [] _ ?_ ⟨_,_,rfl⟩ (by have:=z.ld;have:=z.n8;simp;exact small (by omega)) ?_
 ·rintro p hp _ ⟨o0,o1,rfl⟩ Y Nn hY hN
  have gJ:p<w'.length:=by rw[<-z.ld];simpa using hp
  refine⟨rfl,rfl,?_⟩;refine⟨_,rfl,_,rfl,?_⟩;have en:sS (cj (bY dy p))=(bY dy p).isNone:=by cases bY dy p<;>rfl
  rw[if_neg cB,en];refine bN (λe=>?_) (λe=>hN _ ⟨_,_,rfl⟩ e);refine⟨_,rfl,_,rfl,_,rfl,_,rfl,w',ls,dy,p,rfl,z,gJ,?_⟩;refine⟨_,rfl,by show 2<=sizeLine;decide,?_⟩
  have:(D.tup [.int ((cm (left w' ls dy p)).length:Int), .int (p:Int)])=tupI [((left w' ls dy p).length:Int),(p:Int)]:=by rw[ji];rfl
  refine(?_:Y _ (D.tup [.int ((cm (left w' ls dy p)).length:Int), .int (p:Int)]));rw[this];exact hY _ ⟨_,_,rfl⟩ e
 ·rintro _ ⟨o0,o1,rfl⟩
  refine⟨trivial,?_⟩;rw[ue];generalize hf:(List.range dy.length).filter (λp=>(bY dy p).isNone)=fs
  have mf:∀p,p∈fs->p<w'.length/\bY dy p=none:=λp hp=>by
   rw[<-hf,mF,eJ,z.ld] at hp;exact⟨hp.1,by cases h:bY dy p with|none=>rfl|some _=>rw[h] at hp;cases hp.2⟩
  refine⟨_,rfl,?_⟩;cases fs with
  |nil=>
   refine⟨rfl,bH (q1 λp hp hn=>?_)⟩
   have:p∈(List.range dy.length).filter (λp=>(bY dy p).isNone):=by
    rw[mF,eJ,z.ld];exact⟨hp,by rw[hn];rfl⟩
   rw[hf] at this;cases this
  |cons f fs=>
   refine⟨rfl,b9 ⟨_,rfl,(f::fs).map (λp=> [((left w' ls dy p).length:Int),(p:Int)]),by rw[dX];rfl,by simp,λm hm _=>?_⟩⟩
   obtain⟨p,hp,rfl⟩:=dE.mp hm;obtain⟨a,b⟩:=mf p hp;exact⟨.int (p:Int),rfl,q2 p a b⟩
def spS(m:Nat):bP:=λds P=>∃(w:W)(ls:List (List Int))(dy:Dy),ds= [ay w,mJ ls,oN dy]/\Sz w ls dy/\Ok w ls dy/\jA dy<m/\(∀dz,Ok w ls dz->Full w dz->P (.tup [.str "dyed",oN dz]))/\∀q,pQ w ls (jA dy) dy q->P (.tup [.str "none",tW q])
def Z0(m:Nat):bP:=spS (m+1)
theorem HV{a b:Str}{P:D->Prop}(h:P (.bl (decide (a=b)))):HU (.str a) (.str b) P:=⟨.str a, .str b,rfl,rfl,by simp[PyData.depth],by
 have:PyData.eqv (.str a) (.str b)=decide (a=b):=by
  rw[PyData.eqv]
  by_cases z:a=b<;>simp[z]
 rw[if_neg cB,this];exact h⟩
theorem Sz.put{w:W}{ls:List (List Int)}{dy:Dy}(z:Sz w ls dy)(p:Nat)(d:Int):Sz w ls (dy.set p (some d)):=⟨z.g,z.n1,z.n8,z.ll,by rw[cM];exact z.ld,z.lr,z.rl⟩
theorem xF{i j:Str}{P:D->Prop}{ρ:DN}(h:P (.bl (decide (i=j)))):dC (.str j) ρ (λb=>HU (.str i) b P):=HV h
theorem zi{l:List Int}:mD (.lst (cm l))= !l.isEmpty:=by cases l<;>rfl
def uH(w:W)(ls:List (List Int))(dy:Dy)(p m i:Nat)(ps:List (Option lq)):Prop:=ps.length=i/\∀(k:Nat)(d:Int),k<i->(lst ls p)[k]? =some d->
 (d∈left w ls dy p->∃q,ps[k]? =some (some q)/\pQ w ls m (dy.set p (some d)) q)/\(d∉left w ls dy p->ps[k]? =some none)
theorem uH.snoc{w:W}{ls:List (List Int)}{dy:Dy}{p m i:Nat}{ps:List (Option lq)}(h:uH w ls dy p m i ps){d:Int}(hd:(lst ls p)[i]? =some d){o:Option lq}
  (ho:(d∈left w ls dy p->∃q,o=some q/\pQ w ls m (dy.set p (some d)) q)/\(d∉left w ls dy p->o=none)):uH w ls dy p m (i+1) (ps++ [o]):=by
 refine⟨by simp[h.1],λk e hk he=>?_⟩
 by_cases z:k<i
 ·rw[gE (by rw[h.1];exact z)]
  exact h.2 k e z he
 ·have:k=i:=by omega
  subst this;rw[hd] at he;cases he;rw[iH (by rw[h.1];exact br _),h.1,lb]
  refine⟨λa=>?_,λa=>?_⟩
  ·obtain⟨q,e,hq⟩:=ho.1 a
   exact⟨q,by rw[e];rfl,hq⟩
  ·rw[ho.2 a];rfl
theorem rT(m k:Nat)(hk:2<=k)(sM:FnOk P w Z.K mg base bB k T.d_searched_from.f T.d_searched_from.fd ["turns","lists","dyeing"] (aF Z (spS m))):FnOk P w Z.K mg base bB (k+1) T.d_searched_from.f T.d_searched_from.fd ["turns","lists","dyeing"] (aF Z (Z0 m)):=by
 have nd:=jT.nd;refine aP T.d_searched_from.F jT [0,0,0,0,0,1,0,0] (by decide) (λds R h=>by obtain⟨_,_,_,rfl,_⟩:=h;rfl) (λbc A outer s H E ds R hr h=>?_)
 have hu:=hr.units
 refine⟨_,(af (aH false 3 nd (ax T.d_chosen_point (tm T) hr (ab (aa 0) (ab (aa 1) (ab (aa 2) ae)))))
   (af (bh (aK pU (aa 3) cg (aR _)) (ai (aE (cG (ab dj (ab (aa 2) ae))))) aO)
   (af (aH false 4 nd (ax T.d_dyes_left (hV T) hr (ab (aa 0) (ab (aa 1) (ab (aa 2) (ab (aa 3) ae))))))
   (af (bh (fS (eU (aa 4))) (ai (aE (cG (ab dj (ab (cG (ab dj (ab (aa 3) ae))) ae))))) aO)
   (af (hJ 5 nd (eo ae))
   (af (cu rfl PassesOwn.never (bG (aJ (aa 1) (aa 3))) (aG 6 nd) (ai (bh (aK v5 (aa 6) (aa 4) (by with_unfolding_all rfl)) (af (aH false 7 nd (ax T.d_searched_from sM hr (ab (aa 0) (ab (aa 1) (ab (ax T.d_with_dye (qY T) hr (ab (aa 2) (ab (aa 3) (ab (aa 6) ae)))) ae)))))
   (af (bh (aK (gf hu) (aJ (aa 7) ao) dj (aR _)) (ai (aE (aa 7))) aO)
   (ai (qB false 5 (aJ (aa 7) ao))))) (ai (qB false 5 cg)))))
   (ai (aE (cG (ab dj (ab (cG (ab dj (ab (aa 3) (ab (jb FK rfl T.B.tuple sA (ab (aa 5) ae)) ae)))) ae))))))))))),?_⟩
 obtain⟨w',ls,dy,rfl,z,ok,hu0,q1,q2⟩:=h;refine⟨_,rfl,_,rfl,_,rfl,w',ls,dy,rfl,z,λall=>?_,λp hp hn=>?_⟩
 ·refine⟨trivial,?_⟩
  refine⟨_,rfl,_,rfl,b9 ?_⟩;exact⟨_,rfl,by show 2<=sizeLine;decide,q1 dy ok all⟩
 ·refine⟨trivial,?_⟩
  refine⟨_,rfl,_,rfl,bH ?_⟩;have Dc:p<dy.length:=by rw[z.ld];exact hp
  refine⟨_,rfl,_,rfl,_,rfl,_,rfl,w',ls,dy,p,rfl,z,hp,trivial,?_⟩;obtain⟨m',mI⟩:∃m',jA dy=m'+1:=⟨jA (dy.set p (some 0)),(kS Dc hn).symm⟩;rw[mI] at q2;refine⟨_,rfl,rfl,bN (λe=>?_) (λe=>?_)⟩
  ·have hl:left w' ls dy p= []:=by
    rw[zi] at e;simpa using e
   exact⟨_,rfl,by show 2<=sizeLine;decide,by show 2<=sizeLine;decide,q2 (.full p) ⟨hp,hn,hl⟩⟩
  ·refine⟨by show 0<=sizeLine;decide,?_⟩
   have zl:=z.lr p;refine⟨_,rfl,_,rfl,_,bC (oG (by rw[z.ll];exact hp)),bJ (λj ρ=>∃(ps:List (Option lq))(o6 o7:Option D),ρ= [some (ay w'),some (mJ ls),some (oN dy),some (ag p),some (.lst (cm (left w' ls dy p))),some (.lst (ps.map wo)),o6,o7]/\uH w' ls dy p m' j ps) ⟨[],_,_,rfl,rfl,λk _ hk=>by omega⟩ ?_ ?_⟩
   ·rintro j x _ hx ⟨ps,o6,o7,rfl,up⟩ A' hA
    obtain⟨d,hd,rfl⟩:=bZ hx;have hj:j<(lst ls p).length:=(cT.mp hd).1;have lp:=up.1;have sm:(ps.map wo).length<sizeLine:=fw (by rw[aI];omega)
    refine⟨_,rfl,_,rfl,rfl,jI _,_,rfl,?_⟩;rw[if_neg cB,vK];refine bN (λe=>?_) (λe=>?_)
    ·have Bh:d∈left w' ls dy p:=of_decide_eq_true e
     have us:=kS (d:=d) Dc hn;refine⟨_,rfl,_,rfl,_,rfl,_,rfl,_,rfl,dy,p,d,rfl,Dc,by rw[z.ld];exact z.n8,w',ls,dy.set p (some d),rfl,z.put p d,ok.put z.g hp hn Bh,by omega,λdz a b=>?_,λq hq=>?_⟩
     ·refine⟨trivial,?_⟩
      refine⟨_,rfl,_,rfl,xF ⟨true,congrArg D.bl (decide_eq_true rfl),b9 ?_⟩⟩;exact⟨_,rfl,q1 dz a b⟩
     ·refine⟨trivial,?_⟩
      refine⟨_,rfl,_,rfl,xF ⟨false,congrArg D.bl (by decide+kernel),bH ?_⟩⟩
      refine⟨_,rfl,_,rfl,_,rfl,trivial,sm,hA _ ⟨ps++ [some q],some (.int d),some (.tup [.str "none",tW q]),?_,up.snoc hd ⟨λ_=>⟨q,rfl,?_⟩,λn=>absurd Bh n⟩⟩⟩
      ·rw[fc];rfl
      ·rw[show jA (dy.set p (some d))=m' by omega] at hq;exact hq
    ·have Bh:d∉left w' ls dy p:=of_decide_eq_false e
     refine⟨_,rfl,trivial,sm,hA _ ⟨ps++ [none],some (.int d),o7,?_,up.snoc hd ⟨λn=>absurd n Bh,λ_=>rfl⟩⟩⟩;rw[fc];rfl
   ·rintro _ ⟨ps,o6,o7,rfl,up⟩
    rw[ji] at up;refine⟨_,rfl,_,rfl,by show 3<=sizeLine;decide,by show 2<=sizeLine;decide,?_⟩
    have:=q2 (.mR p ps) ⟨hp,hn,up.1,λi d hi=>up.2 i d (cT.mp hi).1 hi⟩
    rw[tW,wq] at this;exact this
theorem qX{P:Program}{w:World}{mg:Str->Option Value}{base:Heap}{Z:DC}(T:Txt Z mg):FnOk P w Z.K mg base bB 11 T.d_searched_from.f T.d_searched_from.fd ["turns","lists","dyeing"] (aF Z (spS 9)):=by
 have all:∀m,FnOk P w Z.K mg base bB (2+m) T.d_searched_from.f T.d_searched_from.fd ["turns","lists","dyeing"] (aF Z (spS m)):=by
  intro m
  induction m with
  |zero=>
   refine((yw (Z:=Z)).imp ?_).mono (cI _);rintro vs H Q E ⟨G,ds,R,s,dv,⟨w,ls,dy,_,_,_,h,_⟩,q⟩;exact absurd h (Nat.not_lt_zero _)
  |succ m ih=>exact rT T m (2+m) (by omega) ih
 exact all 9
def B7:bP:=λds P=>∃(w:W)(ls:List (List Int)),ds= [.fk w,mJ ls]/\Sz w ls (List.replicate w.length none)/\(∀dz,Ok w ls dz->Full w dz->P (.tup [.str "dyed",oN dz]))/\∀q,pQ w ls w.length (List.replicate w.length none) q->P (.tup [.str "none",tW q])
theorem Lh{n p:Nat}:bY (List.replicate n none) p=none:=by
 unfold bY;rw[bb,n6]
 split<;>rfl
theorem Mq{w:W}{ls:List (List Int)}:Ok w ls (List.replicate w.length none):=⟨by simp,λp d h=>by rw[Lh] at h;cases h⟩
theorem rW(n:Nat):jA (List.replicate n none)=n:=by
 unfold jA;rw[List.countP_replicate];rfl
theorem Kl(n:Nat):(dk 0 n).map (λ_=>D.aZ)=(List.replicate n none).map cj:=by
 unfold dk;rw[dX,List.map_replicate];refine xj λi=>?_;rw[cL,n6]
 by_cases h:i<n
 ·rw[ud h,if_pos h];rfl
 ·rw[eQ (by simpa using gH h),if_neg h];rfl
theorem Bv{te:aY}{n:Nat}{N:DN->List D->Prop}(ht:te=dC .aZ)(hz:n<=sizeLine)(h:∀aD,N aD ((List.replicate n none).map cj)):lcW (qy 0) tN te (dk 0 n) [none] [] N:=by
 subst ht
 have:=fU (i:=0) (ρ:= [none]) (λd:D=>d) (λ_=>D.aZ) (dk 0 n) N (λy hy Y h=>h) rfl (by unfold dk;simpa using hz) (λaD=>by rw[Kl];exact h aD) (te:=dC .aZ)
 simpa using this
theorem Aj:FnOk P w Z.K mg base bB 12 T.d_searched.f T.d_searched.fd ["web","lists"] (aF Z B7):=by
 have nd:=rP.nd;refine aP T.d_searched.F rP [0,0] (by decide) (λds R h=>by obtain⟨_,_,rfl,_⟩:=h;rfl) (λbc A outer s H E ds R hr h=>?_)
 have hu:=hr.units
 refine⟨_,(af (vw (ax T.d_need_at_most (tq T) hr (ab (aa 0) (ab (yf rfl T.c_MOST_SEARCHED) ae))))
   (ai (aE (ax T.d_searched_from (qX T) hr (ab (cQ T.W (aa 0) T.m_turns.m (j9 T) (hr.mono (by decide)) T.m_turns.b) (ab (aa 1) (ab (jc (NC:= ["p"]) (src:= [none]) rfl (lB (aq jQ)) trivial (pJ rfl T.B.range (ab (cQ T.W (aa 0) T.m_many.m (eZ T) (hr.mono (by decide)) T.m_many.b) ae)) (λ_ _ _=>(bF 0 (show(["p"]:List Str).Nodup from by decide+kernel))) (λ_ _ _=>cZ) (λ_ _ _=>cg)) ae))))))),?_⟩
 obtain⟨w',ls,rfl,z,q1,q2⟩:=h;have n8:=z.n8;refine⟨_,rfl,w',8,rfl,by omega,?_⟩
 refine⟨_,rfl,w',rfl,w',rfl,by omega,_,rfl,_,rfl,w',rfl,w',rfl,⟨by omega,by omega⟩,?_⟩
 rw[show((w'.length:Int)).toNat=w'.length by omega]
 refine Bv rfl (small (by omega)) λaD=>?_
 exact⟨w',ls,List.replicate w'.length none,rfl,z,Mq,by rw[rW];omega,q1,by rw[rW];exact q2⟩
end lg
namespace Ws
open Wb
inductive Pq where
 |full (p:Int)
 |mR (p:Int) (ps:List (Option Pq))
def Pq.pt:Pq->Int
 | .full p=>p
 | .mR p _=>p
def pY(dy:Dy)(p:Int):Bool:=decide (0<=p/\p<(dy.length:Int))&&(bY dy p.toNat).isNone
def eD(w:W)(ls:List (List Int)):Nat->Dy->Option Pq->Bool
 |0,_,_=>false
 |_+1,_,none=>false
 |_+1,dy,some (.full p)=>pY dy p&&(left w ls dy p.toNat).isEmpty
 |m+1,dy,some (.mR p ps)=>pY dy p&&(decide (ps.length=(lst ls p.toNat).length)&&((lst ls p.toNat).zip ps).all λt=>if t.1∈left w ls dy p.toNat then eD w ls m (dy.set p.toNat (some t.1)) t.2 else t.2.isNone)
theorem CV{w:W}{ls:List (List Int)}(m:Nat)(dy:Dy):eD w ls m dy none=false:=by cases m<;>rfl
theorem yq{w:W}{ls:List (List Int)}(m:Nat){dy:Dy}{q:Pq}(h:pY dy q.pt=false):eD w ls m dy (some q)=false:=by
 cases m with
 |zero=>rfl
 |succ m=>
  cases q with
  |full p=>rw[eD];show(pY dy p&&_)=false;rw[show pY dy p=false from h];rfl
  |mR p ps=>rw[eD];show(pY dy p&&_)=false;rw[show pY dy p=false from h];rfl
theorem oI{dy:Dy}{p:Int}(h:pY dy p=true):∃k:Nat,p=(k:Int)/\k<dy.length/\bY dy k=none:=by
 unfold pY at h;rw[iJ] at h;obtain⟨h1,h2⟩:=h;have h1:=of_decide_eq_true h1;refine⟨p.toNat,by omega,by omega,?_⟩
 cases e:bY dy p.toNat with
 |none=>rfl
 |some d=>rw[e] at h2;cases h2
theorem uU{dy:Dy}{k:Nat}(h:k<dy.length)(hn:bY dy k=none):pY dy (k:Int)=true:=by
 unfold pY;rw[decide_eq_true ⟨by omega,by omega⟩,og,hn];rfl
mutual
def A7:lq->Pq
 | .full p=> .full (p:Int)
 | .mR p ps=> .mR (p:Int) (tQ ps)
def tQ:List (Option lq)->List (Option Pq)
 | []=> []
 |o::os=>ym o::tQ os
def ym:Option lq->Option Pq
 |none=>none
 |some q=>some (A7 q)
end
theorem yn:∀ps:List (Option lq),tQ ps=ps.map ym
 | []=>by rw[tQ];rfl
 |o::os=>by rw[tQ,yn os];rfl
theorem sI{w:W}{ls:List (List Int)}:∀(m:Nat)(dy:Dy)(q:lq),pQ w ls m dy q->dy.length=w.length->eD w ls m dy (some (A7 q))=true
 |0,_,_,h,_=>h.elim
 |m+1,dy, .full p,⟨h1,h2,h3⟩,hl=>by
  rw[A7,eD,uU (by omega) h2,og,h3];rfl
 |m+1,dy, .mR p ps,⟨h1,h2,h4,h3⟩,hl=>by
  rw[A7,eD,uU (by omega) h2,og,yn,aI,decide_eq_true h4,xo,xo,jZ]
  rintro⟨d,o⟩ ht;obtain⟨i,hi⟩:=pA ht;rw[Ey,cL] at hi;obtain⟨h5,h6⟩:=hi
  obtain⟨o',h7,h8⟩:∃o',ps[i]? =some o'/\ym o'=o:=by
   cases e:ps[i]? with
   |none=>rw[e] at h6;cases h6
   |some o'=>rw[e] at h6;exact⟨o',rfl,Option.some.inj h6⟩
  obtain⟨a,b⟩:=h3 i d h5;subst h8;show(if d∈left w ls dy p then _ else _)=true
  by_cases c:d∈left w ls dy p
  ·rw[if_pos c]
   obtain⟨q,hq,hp⟩:=a c;rw[h7] at hq;cases hq;exact sI m _ q hp (by rw[cM];exact hl)
  ·rw[if_neg c]
   have:=b c
   rw[h7] at this;cases this;rfl
end Ws
namespace lg
open PySem L2 Wb
variable {P:Program} {w:World} {mg:Str->Option Value} {base:Heap} {Z:DC} (T:Txt Z mg)
open Wy Ws
mutual
def qD:Pq->D
 | .full p=> .tup [.str "full", .int p]
 | .mR p ps=> .tup [.str "choose", .int p, .tup (qg ps)]
def qg:List (Option Pq)->List D
 | []=> []
 |o::os=>qO o::qg os
def qO:Option Pq->D
 |none=> .aZ
 |some q=>qD q
end
theorem rG:∀ps:List (Option Pq),qg ps=ps.map qO
 | []=>by rw[qg];rfl
 |o::os=>by rw[qg,rG os];rfl
mutual
theorem Fh:∀q:lq,qD (A7 q)=tW q
 | .full p=>by rw[A7,qD,tW];rfl
 | .mR p ps=>by rw[A7,qD,tW,yZ ps];rfl
theorem yZ:∀ps:List (Option lq),qg (tQ ps)=nu ps
 | []=>by rw[tQ,qg,nu]
 |o::os=>by rw[tQ,qg,nu,yZ os,MW o]
theorem MW:∀o:Option lq,qO (ym o)=wo o
 |none=>by rw[ym,qO,wo]
 |some q=>by rw[ym,qO,wo,Fh q]
end
def gw(w:W)(ls:List (List Int))(dy:Dy)(p:Nat)(t:Int×Option Pq):Bool:=if t.1∈left w ls dy p then eD w ls (jA dy-1) (dy.set p (some t.1)) t.2 else t.2.isNone
theorem FH{w:W}{ls:List (List Int)}{dy:Dy}{p:Nat}{d:Int}{o:Option Pq}(hp:p<dy.length)(hn:bY dy p=none)(h:d∈left w ls dy p):gw w ls dy p (d,o)=eD w ls (jA (dy.set p (some d))) (dy.set p (some d)) o:=by
 have us:=kS (d:=d) hp hn;unfold gw;rw[if_pos h,show jA dy-1=jA (dy.set p (some d)) by omega]
theorem CB{w:W}{ls:List (List Int)}{dy:Dy}{p:Nat}{d:Int}{o:Option Pq}(h:d∉left w ls dy p):gw w ls dy p (d,o)=o.isNone:=by
 unfold gw;rw[if_neg h]
theorem F5{w:W}{ls:List (List Int)}{dy:Dy}{k:Nat}{ps:List (Option Pq)}(hp:k<dy.length)(hn:bY dy k=none):eD w ls (jA dy) dy (some (.mR (k:Int) ps))=(decide (ps.length=(lst ls k).length)&&((lst ls k).zip ps).all (gw w ls dy k)):=by
 obtain⟨m,hm⟩:∃m,jA dy=m+1:=⟨jA (dy.set k (some 0)),(kS hp hn).symm⟩
 have e:gw w ls dy k=λt=>if t.1∈left w ls dy k then eD w ls m (dy.set k (some t.1)) t.2 else t.2.isNone:=by
  funext t
  unfold gw;rw[hm];rfl
 rw[e,hm,eD,uU hp hn,og,xo]
theorem CU{w:W}{ls:List (List Int)}{dy:Dy}{k:Nat}(hp:k<dy.length)(hn:bY dy k=none):eD w ls (jA dy) dy (some (.full (k:Int)))=(left w ls dy k).isEmpty:=by
 obtain⟨m,hm⟩:∃m,jA dy=m+1:=⟨jA (dy.set k (some 0)),(kS hp hn).symm⟩;rw[hm,eD,uU hp hn,og,xo]
def ZY(m:Nat):bP:=λds P=>∃(w:W)(ls:List (List Int))(dy:Dy)(p:Nat)(ps:List (Option Pq)),ds= [ay w,mJ ls,oN dy,ag p, .tup (qg ps)]/\Sz w ls dy/\p<w.length/\bY dy p=none/\jA dy<=m/\P (.bl (decide (ps.length=(lst ls p).length)&&((lst ls p).zip ps).all (gw w ls dy p)))
def Nb(m:Nat):bP:=λds P=>∃(w:W)(ls:List (List Int))(dy:Dy)(o:Option Pq),ds= [ay w,mJ ls,oN dy,qO o]/\Sz w ls dy/\jA dy<m/\P (.bl (eD w ls (jA dy) dy o))
theorem Hq{l m:List D}{i:Nat}{d:D}(h:(rY l m)[i]? =some d):∃x y,l[i]? =some x/\m[i]? =some y/\d= .tup [x,y]:=by
 unfold rY at h;rw[List.getElem?_zipWith] at h;cases e1:l[i]? with
 |none=>rw[e1] at h;cases h
 |some x=>
  cases e2:m[i]? with
  |none=>rw[e1,e2] at h;cases h
  |some y=>rw[e1,e2] at h;exact⟨x,y,rfl,rfl,(Option.some.inj h).symm⟩
theorem FF{α:Type}{l:List α}{f:α->Bool}{i:Nat}{x:α}(h:l[i]? =some x):(l.take (i+1)).all f=((l.take i).all f&&f x):=by
 rw[List.take_add_one,h,Option.toList_some,wX,tH,List.all_nil,Bool.and_true]
theorem HD{α:Type}{l:List α}{f:α->Bool}{i:Nat}{x:α}(h:l[i]? =some x)(hf:f x=false):l.all f=false:=by
 rw[List.all_eq_false];exact⟨x,eS h,by rw[hf];exact cB⟩
def ZZ(m:Nat):bP:=Nb (m+1)
theorem Gv(o:Option Pq):sS (qO o)=o.isNone:=by
 cases o with
 |none=>rw[qO];rfl
 |some q=>rw[qO];cases q<;>rw[qD]<;>rfl
theorem wG(m k:Nat)(hk:1<=k)(sL:FnOk P w Z.K mg base bB k T.d_is_paper_from.f T.d_is_paper_from.fd ["turns","lists","dyeing","paper"] (aF Z (Nb m))):FnOk P w Z.K mg base bB (k+1) T.d_are_papers.f T.d_are_papers.fd ["turns","lists","dyeing","p","papers"] (aF Z (ZY m)):=by
 have nd:=nN.nd;refine aP T.d_are_papers.F nN [0,0,0,0,0,0,0,0] (by decide) (λds R h=>by obtain⟨_,_,_,_,_,rfl,_⟩:=h;rfl) (λbc A outer s H E ds R hr h=>?_)
 have hu:=hr.units
 refine⟨_,(af (bh (DW.dt (pK (fS (eU (lC "tuple" (aa 4) rfl T.B.isinstance rfl T.B.tuple sA))) (oz (aK (pV hu) (aA aX rfl T.B.len aW (ab (aa 4) ae)) (aA aX rfl T.B.len aW (ab (aJ (aa 1) (aa 3)) ae)) (aR _))))) (ai (aE f6)) aO)
   (af (aH false 5 nd (ax T.d_dyes_left (hV T) hr (ab (aa 0) (ab (aa 1) (ab (aa 2) (ab (aa 3) ae))))))
   (af (cu rfl PassesOwn.never (Ij rfl T.B.zip (ab (aJ (aa 1) (aa 3)) (ab (aa 4) ae))) (eu 2 rfl (aN (aG 6 nd) (aN (aG 7 nd) b7))) (ai (bh (aK kK (aa 6) (aa 5) (by with_unfolding_all rfl)) (ai (bh (aK td (aa 7) cg (aR _)) (ai (aE f6)) aO)) (ai (bh (fS (eU (ax T.d_is_paper_from sL hr (ab (aa 0) (ab (aa 1) (ab (ax T.d_with_dye (qY T) hr (ab (aa 2) (ab (aa 3) (ab (aa 6) ae)))) (ab (aa 7) ae))))))) (ai (aE f6)) aO)))))
   (ai (aE f6))))),?_⟩
 obtain⟨w',ls,dy,p,ps,rfl,z,hp,hn,hm,q⟩:=h;have Dc:p<dy.length:=by rw[z.ld];exact hp
 have eF:p<ls.length:=by rw[z.ll];exact hp
 refine⟨_,rfl,rfl,rfl,bH ⟨_,rfl,_,rfl,_,rfl,_,bC (oG eF),?_⟩⟩;dsimp only[cW,eN]
 have e0:decide (((qg ps).length:Int)=((cm (lst ls p)).length:Int))=decide (ps.length=(lst ls p).length):=by
  rw[rG,aI,ji];exact decide_eq_decide.mpr ⟨λh=>by omega,λh=>by omega⟩
 refine qv ⟨_,rfl,bN (λe=>?_) (λe=>?_)⟩
 ·rw[e0] at e
  rw[show decide (ps.length=(lst ls p).length)=false by simpa using e] at q
  exact q
 rw[e0] at e;have e:decide (ps.length=(lst ls p).length)=true:=by simpa using e
 rw[e,xo] at q;refine⟨_,rfl,_,rfl,_,rfl,_,rfl,w',ls,dy,p,rfl,z,hp,trivial,?_⟩;refine⟨_,rfl,_,rfl,_,bC (oG eF),_,rfl,bJ (λi ρ=>∃o6 o7,ρ= [some (ay w'),some (mJ ls),some (oN dy),some (ag p),some (.tup (qg ps)),some (.lst (cm (left w' ls dy p))),o6,o7]/\(((lst ls p).zip ps).take i).all (gw w' ls dy p)=true) ⟨_,_,rfl,rfl⟩ ?_ ?_⟩
 ·rintro i x _ hx ⟨o6,o7,rfl,je⟩ A' hA
  obtain⟨x1,x2,h1,h2,rfl⟩:=Hq hx;obtain⟨d,hd,rfl⟩:=bZ h1;rw[rG] at h2;obtain⟨o,ho,rfl⟩:=bZ h2;have hz:((lst ls p).zip ps)[i]? =some (d,o):=by rw[Ey];exact⟨hd,ho⟩
  have xw:=FF (f:=gw w' ls dy p) hz;rw[je,xo] at xw;have bad:=HD (f:=gw w' ls dy p) hz;refine⟨rfl,rfl,?_⟩;refine⟨_,rfl,_,rfl,rfl,jI _,_,rfl,?_⟩;rw[if_pos rfl,vK];refine bN (λe=>?_) (λe=>?_)
  ·have Bh:d∉left w' ls dy p:=of_decide_eq_false (by simpa using e)
   rw[CB Bh] at xw bad;refine⟨_,rfl,_,rfl,?_⟩;rw[if_pos rfl,Gv];refine bN (λe=>?_) (λe=>hA _ ⟨_,_,rfl,?_⟩)
   ·rw[bad (by simpa using e)] at q;exact q
   ·rw[xw];simpa using e
  ·have Bh:d∈left w' ls dy p:=of_decide_eq_true (by simpa using e)
   have us:=kS (d:=d) Dc hn;rw[FH Dc hn Bh] at xw bad;refine⟨_,rfl,_,rfl,_,rfl,_,rfl,_,rfl,dy,p,d,rfl,Dc,by rw[z.ld];exact z.n8,_,rfl,w',ls,dy.set p (some d),o,rfl,z.put p d,by omega,rfl,?_⟩
   refine bN (λe=>?_) (λe=>hA _ ⟨_,_,rfl,?_⟩)
   ·rw[bad (by simpa [mD] using e)] at q;exact q
   ·rw[xw];simpa [mD] using e
 ·rintro _ ⟨o6,o7,rfl,je⟩
  have lz:(rY (cm (lst ls p)) (qg ps)).length=((lst ls p).zip ps).length:=by
   unfold rY;rw[List.length_zipWith,List.length_zip,ji,rG,aI]
  rw[lz,List.take_length] at je;rw[je] at q;exact q
theorem rS(m k:Nat)(hk:1<=k)(xH:FnOk P w Z.K mg base bB k T.d_are_papers.f T.d_are_papers.fd ["turns","lists","dyeing","p","papers"] (aF Z (ZY m))):FnOk P w Z.K mg base bB (k+1) T.d_is_paper_from.f T.d_is_paper_from.fd ["turns","lists","dyeing","paper"] (aF Z (ZZ m)):=by
 have nd:=jS.nd;refine aP T.d_is_paper_from.F jS [0,0,0,0,0,0] (by decide) (λds R h=>by obtain⟨_,_,_,_,rfl,_⟩:=h;rfl) (λbc A outer s H E ds R hr h=>?_)
 have hu:=hr.units
 refine⟨_,(af (bh (DW.dt (pK (fS (eU (lC "tuple" (aa 3) rfl T.B.isinstance rfl T.B.tuple sA))) (oz (aK kK (aA aX rfl T.B.len aW (ab (aa 3) ae)) (cG (ab ao (ab ao ae))) (by with_unfolding_all rfl))))) (ai (aE f6)) aO)
   (af (uM (CO (aa 3) cX (cY ao)) (eu 2 rfl (aN (aG 4 nd) (aN (aG 5 nd) b7))))
   (af (bh (DW.dt (pK (fS (eU (ax T.d_is_among (qV T) hr (ab (aa 5) (ab (aA aX rfl T.B.len aW (ab (aa 2) ae)) ae))))) (oz (aK td (aJ (aa 2) (aa 5)) cg (aR _))))) (ai (aE f6)) aO)
   (af (bh (aK (gf hu) (aA aX rfl T.B.len aW (ab (aa 3) ae)) ao (aR _)) (ai (aE (uK (oi (gf hu) (aa 4) dj (aR _)) (zH (Ib (ax T.d_dyes_left (hV T) hr (ab (aa 0) (ab (aa 1) (ab (aa 2) (ab (aa 5) ae)))))))))) aO)
   (ai (aE (uK (oi (gf hu) (aa 4) dj (aR _)) (zH (ax T.d_are_papers xH hr (ab (aa 0) (ab (aa 1) (ab (aa 2) (ab (aa 5) (ab (aJ (aa 3) ao) ae)))))))))))))),?_⟩
 obtain⟨w',ls,dy,o,rfl,z,hm,q⟩:=h;have Gz:((dy.map cj).length:Int)=(dy.length:Int):=by rw[aI]
 cases o with
 |none=>
  rw[CV] at q;exact⟨_,rfl,rfl,rfl,b9 q⟩
 |some pq=>
  have Yv:∀p,pY dy p=false->¬(0<=p/\p<(dy.length:Int))\/(∃k:Nat,p=(k:Int)/\k<dy.length/\∃d,bY dy k=some d):=λp hp=>by
   by_cases c:0<=p/\p<(dy.length:Int)
   ·right
    refine⟨p.toNat,by omega,by omega,?_⟩
    cases e:bY dy p.toNat with
    |some d=>exact⟨d,rfl⟩
    |none=>
     unfold pY at hp;rw[decide_eq_true c,e] at hp;cases hp
   ·exact .inl c
  cases pq with
  |full p=>
   have ep:qO (some (.full p))= .tup [.str "full", .int p]:=by rw[qO,qD]
   rw[ep];refine⟨_,rfl,rfl,rfl,bH ⟨_,rfl,by show 2<=sizeLine;decide,rfl,rfl,false,rfl,bH ?_⟩⟩
   refine⟨_,rfl,?_⟩;have ec:cutD [D.str "full", .int p] none (some 2)= [.str "full", .int p]:=rfl;refine(?_:zI 2 _ (.tup (cutD [D.str "full", .int p] none (some 2))) _ _);rw[ec];refine⟨rfl,rfl,?_⟩;refine⟨_,rfl,_,rfl,_,_,rfl,?_⟩;refine⟨rfl,?_⟩;cases ok:pY dy p with
   |false=>
    rw[yq _ (q:= .full p) ok] at q
    rcases Yv p ok with c| ⟨k,rfl,hk,d,hd⟩
    ·rw[decide_eq_false (by rw[Gz];exact c)]
     exact b9 q
    ·rw[decide_eq_true (by rw[Gz];omega)]
     refine bH ⟨_,rfl,_,rfl,_,bC (jH hk),?_⟩;rw[hd];exact⟨_,rfl,b9 q⟩
   |true=>
    obtain⟨k,rfl,hk,hn⟩:=oI ok;rw[CU hk hn] at q;have hp:k<w'.length:=by rw[<-z.ld];exact hk
    rw[decide_eq_true (by rw[Gz];omega)]
    refine bH ⟨_,rfl,_,rfl,_,bC (jH hk),?_⟩;rw[hn];refine⟨_,rfl,bH ?_⟩;refine⟨_,rfl,?_⟩;dsimp only[cW,eN];refine xE ?_;refine⟨true,rfl,b9 ?_⟩;refine⟨_,rfl,xF ⟨true,congrArg D.bl (decide_eq_true rfl),b9 ?_⟩⟩;refine⟨_,rfl,_,rfl,_,rfl,_,rfl,w',ls,dy,k,rfl,z,hp,rfl,?_⟩;rw[show(!mD (.lst (cm (left w' ls dy k))))=(left w' ls dy k).isEmpty by rw[zi,Bool.not_not]]
    exact q
  |mR p ps=>
   have ep:qO (some (.mR p ps))= .tup [.str "choose", .int p, .tup (qg ps)]:=by rw[qO,qD]
   rw[ep];refine⟨_,rfl,rfl,rfl,bH ⟨_,rfl,by show 2<=sizeLine;decide,rfl,rfl,false,rfl,bH ?_⟩⟩
   refine⟨_,rfl,?_⟩;have ec:cutD [D.str "choose", .int p, .tup (qg ps)] none (some 2)= [.str "choose", .int p]:=rfl;refine(?_:zI 2 _ (.tup (cutD [D.str "choose", .int p, .tup (qg ps)] none (some 2))) _ _);rw[ec];refine⟨rfl,rfl,?_⟩;refine⟨_,rfl,_,rfl,_,_,rfl,?_⟩;refine⟨rfl,?_⟩;cases ok:pY dy p with
   |false=>
    rw[yq _ (q:= .mR p ps) ok] at q
    rcases Yv p ok with c| ⟨k,rfl,hk,d,hd⟩
    ·rw[decide_eq_false (by rw[Gz];exact c)]
     exact b9 q
    ·rw[decide_eq_true (by rw[Gz];omega)]
     refine bH ⟨_,rfl,_,rfl,_,bC (jH hk),?_⟩;rw[hd];exact⟨_,rfl,b9 q⟩
   |true=>
    obtain⟨k,rfl,hk,hn⟩:=oI ok;rw[F5 hk hn] at q;have hp:k<w'.length:=by rw[<-z.ld];exact hk
    rw[decide_eq_true (by rw[Gz];omega)]
    refine bH ⟨_,rfl,_,rfl,_,bC (jH hk),?_⟩;rw[hn];refine⟨_,rfl,bH ?_⟩;refine⟨_,rfl,?_⟩;dsimp only[cW,eN];refine xE ?_;refine⟨false,rfl,bH ?_⟩;refine⟨_,rfl,xF ⟨true,congrArg D.bl (decide_eq_true rfl),b9 ?_⟩⟩;exact⟨_,rfl,_,rfl,_,rfl,_,rfl,_,rfl,_,rfl,w',ls,dy,k,ps,rfl,z,hp,hn,by omega,q⟩
theorem qW{P:Program}{w:World}{mg:Str->Option Value}{base:Heap}{Z:DC}(T:Txt Z mg):FnOk P w Z.K mg base bB 19 T.d_is_paper_from.f T.d_is_paper_from.fd ["turns","lists","dyeing","paper"] (aF Z (Nb 9)):=by
 have all:∀m,FnOk P w Z.K mg base bB (1+m+m) T.d_is_paper_from.f T.d_is_paper_from.fd ["turns","lists","dyeing","paper"] (aF Z (Nb m)):=by
  intro m
  induction m with
  |zero=>
   refine((yw (Z:=Z)).imp ?_).mono (cI _);rintro vs H Q E ⟨G,ds,R,s,dv,⟨w,ls,dy,o,_,_,h,_⟩,_⟩;exact absurd h (Nat.not_lt_zero _)
  |succ m ih=>
   have:=rS T m _ (by omega) (wG T m (1+m+m) (by omega) ih)
   rw[show 1+(m+1)+(m+1)=1+m+m+1+1 by omega]
   exact this
 exact all 9
def Ef:bP:=λds P=>∃(w:W)(ls:List (List Int))(o:Option Pq),ds= [.fk w,mJ ls,qO o]/\Sz w ls (List.replicate w.length none)/\P (.bl (eD w ls w.length (List.replicate w.length none) o))
theorem Ah:FnOk P w Z.K mg base bB 20 T.d_is_paper.f T.d_is_paper.fd ["web","lists","paper"] (aF Z Ef):=by
 have nd:=rN.nd;refine aP T.d_is_paper.F rN [0,0,0] (by decide) (λds R h=>by obtain⟨_,_,_,rfl,_⟩:=h;rfl) (λbc A outer s H E ds R hr h=>?_)
 have hu:=hr.units;refine⟨_,(ai (aE (ax T.d_is_paper_from (qW T) hr (ab (cQ T.W (aa 0) T.m_turns.m (j9 T) (hr.mono (by decide)) T.m_turns.b) (ab (aa 1) (ab (jc (NC:= ["p"]) (src:= [none]) rfl (lB (aq jP)) trivial (pJ rfl T.B.range (ab (cQ T.W (aa 0) T.m_many.m (eZ T) (hr.mono (by decide)) T.m_many.b) ae)) (λ_ _ _=>(bF 0 (show(["p"]:List Str).Nodup from by decide+kernel))) (λ_ _ _=>cZ) (λ_ _ _=>cg)) (ab (aa 2) ae))))))),?_⟩
 obtain⟨w',ls,o,rfl,z,q⟩:=h;have n8:=z.n8;refine⟨_,rfl,w',rfl,w',rfl,by omega,_,rfl,_,rfl,w',rfl,w',rfl,⟨by omega,by omega⟩,?_⟩
 rw[show((w'.length:Int)).toNat=w'.length by omega]
 refine Bv rfl (small (by omega)) λaD=>?_
 exact⟨_,rfl,w',ls,List.replicate w'.length none,o,rfl,z,by rw[rW];omega,by rw[rW];exact q⟩
end lg
namespace lg
open PySem L2 Wb
variable {P:Program} {w:World} {mg:Str->Option Value} {base:Heap} {Z:DC} (T:Txt Z mg)
open Wy Ws
def Kv:bP:=λds P=>∃(w:W)(ls:List (List Int))(dz:Dy),ds= [ay w,mJ ls,oN dz]/\Sz w ls dz/\Ok w ls dz/\Full w dz/\P (.bl true)
theorem xR:FnOk P w Z.K mg base bB 1 T.d__law_dyed.f T.d__law_dyed.fd ["_law_turns","_law_lists_here","_law_told"] (aF Z Kv):=by
 have nd:=oY.nd;refine aP T.d__law_dyed.F oY [0,0,0,0,0] (by decide) (λds R h=>by obtain⟨_,_,_,rfl,_⟩:=h;rfl) (λbc A outer s H E ds R hr h=>?_)
 have hu:=hr.units
 refine⟨_,(af (bh (DW.dt (pK (fS (eU (lC "list" (aa 2) rfl T.B.isinstance rfl T.B.list kB))) (oz (aK (pV hu) (aA aX rfl T.B.len aW (ab (aa 2) ae)) (aA aX rfl T.B.len aW (ab (aa 0) ae)) (aR _))))) (ai (aE f6)) aO)
   (af (cu rfl PassesOwn.never (eC rfl T.B.enumerate (ab (aa 0) ae)) (eu 2 rfl (aN (aG 3 nd) (aN (aG 4 nd) b7))) (af (bh (DW.dt (pK (fS (eU (lC "int" (aJ (aa 2) (aa 3)) rfl T.B.isinstance rfl T.B.int EH))) (pK (eU (lC "bool" (aJ (aa 2) (aa 3)) rfl T.B.isinstance rfl T.B.bool AL)) (oz (aK kK (aJ (aa 2) (aa 3)) (aJ (aa 1) (aa 3)) (by with_unfolding_all rfl)))))) (ai (aE f6)) aO)
   (ai (bh (aK v5 (aJ (aa 2) (aa 3)) (jc (NC:= ["_law_other","_law_told"]) (src:= [none,some 2]) rfl (lB (aq iR)) ⟨rfl,rfl,trivial⟩ (bG (aa 4)) (λ_ _ _=>(bF 0 (show(["_law_other","_law_told"]:List Str).Nodup from by decide+kernel))) (λ_ _ _=>cZ) (λ_ _ _=>(aJ (aa 1) (aa 0)))) (by with_unfolding_all rfl)) (ai (aE f6)) aO))))
   (ai (aE f6)))),?_⟩
 obtain⟨w',ls,dz,rfl,z,ok,f,q⟩:=h;refine⟨_,rfl,rfl,rfl,bH ⟨_,rfl,_,rfl,?_⟩⟩;dsimp only[cW,eN];refine qv ?_;refine⟨false,?_,bH ?_⟩
 ·have:decide (((dz.map cj).length:Int)=((w'.map av).length:Int))=true:=decide_eq_true (by rw[aI,aI,z.ld])
  exact congrArg D.bl (by rw[this];rfl)
 refine⟨_,rfl,bJ (λ_ ρ=>∃o3 o4,ρ= [some (ay w'),some (mJ ls),some (oN dz),o3,o4]) ⟨_,_,rfl⟩ ?_ ?_⟩
 ·rintro j x _ hx ⟨o3,o4,rfl⟩ A' hA
  obtain⟨hj,rfl⟩:=wR hx
  obtain⟨d,hd⟩:∃d,bY dz j=some d:=by
   cases e:bY dz j with
   |none=>exact absurd e (f j hj)
   |some d=>exact⟨d,rfl⟩
  have ed:gv (dz.map cj) (j:Int)=some (.int d):=by
   have:=bC (jH (dy:=dz) (p:=j) (by rw[z.ld];exact hj))
   rw[hd] at this;exact this
  obtain⟨o1,o2⟩:=ok.2 j d hd;refine⟨rfl,rfl,?_⟩;refine⟨_,rfl,_,rfl,_,ed,rfl,rfl,bH ?_⟩;refine⟨_,rfl,_,rfl,_,ed,rfl,rfl,bH ?_⟩;refine⟨_,rfl,_,rfl,_,ed,_,rfl,_,rfl,_,bC (oG (by rw[z.ll];exact hj)),rfl,jI _,false,?_,bH ?_⟩
  ·rw[if_pos rfl,vK,decide_eq_true o1];rfl
  refine⟨_,rfl,_,rfl,_,ed,_,rfl,fU (ρ:= [none,some (oN dz)]) ag (λq=>cj (bY dz q)) (row w' j) _ (λy hy Y h=>?_) rfl (small (by have:=z.rl j;omega)) λaD=>?_⟩
  ·exact⟨_,rfl,_,rfl,_,bC (jH (by rw[z.ld];exact z.g.rng _ _ hy)),h⟩
  have e0:(row w' j).map (λq=>cj (bY dz q))=((row w' j).map λq=>bY dz q).map cj:=by rw[dX];rfl
  rw[e0];refine⟨rfl,yt _,false,?_,bH (hA _ ⟨_,_,rfl⟩)⟩;rw[if_neg cB,Bn,decide_eq_false];intro m;obtain⟨q,hq,e⟩:=dE.mp m;exact o2 q hq e
 ·rintro _ ⟨o3,o4,rfl⟩
  exact q
end lg
namespace L2
open PySem PySem.Spec PyProof.Rows
section
variable {Z:DC} {X:Cx} {B:Bs} {md:List Nat} {rn:Nat} {ρ:DN} {σ:St} {H G:Hp} {fp:Nat->List Addr} {k c e:Expr} {tk te tz:aY} {tc:dJ} {pos:Pos}
theorem DvAll.erase:∀{vs:List V}{ds:List D}(n:Nat),DvAll Z G vs ds->DvAll Z G (vs.eraseIdx n) (ds.eraseIdx n)
 |_,_,_, .nil=> .nil
 |_,_,0, .cons a as=>as
 |_,_,n+1, .cons a as=> .cons a (DvAll.erase n as)
end
section
variable {Z:DC} {X:Cx} {md:List Nat} {rn:Nat} {e1 e2:Expr} {t1 t2:aY} {pos:Pos}
def P7(md:List Nat)(i:Nat)(t1 t2:aY):cx:=λE ρ=>∃l,ρ[i]? =some (some (.lst l))/\l.length<=1000/\t1 (cA md ρ) λa=>∃j1 d1,a=ag j1/\j1<l.length/\l[j1]? =some d1/\
 t2 (cA md (ρ.set i (some (.lst (l.eraseIdx j1))))) λb=>∃j2 d2,b=ag j2/\j2<(l.eraseIdx j1).length/\(l.eraseIdx j1)[j2]? =some d2/\E.nx (ρ.set i (some (.lst ([d1]++ [d2]++(l.eraseIdx j1).eraseIdx j2))))
theorem BE{n:Nat}{m:Nat}(h:n<m):jD m (n:Int)=some n:=by
 unfold jD;rw[if_pos (by omega),if_pos (by omega)]
 exact congrArg some (by omega)
theorem Im(i:Nat){x:Str}{px p1 p2 p3 JR JS BM BN YD MO Yz YA:Pos}(hN:X.N.Nodup)(h1:DE Z X e1 t1)(h2:DE Z X e2 t2)(hm:md.getD i 0=1:=by rfl)(hi:X.N[i]? =some x:=by rfl)(hx:Loc X.env.scope x:=by first|exact Or.inl rfl|exact Or.inr rfl)(hv:j5 X.env.scope x:=by first|exact Or.inl rfl|exact Or.inr (Or.inl rfl) |exact Or.inr (Or.inr rfl))(hd:(x==("__debug__":Str))=false:=by decide)(dh:(x==("__classdict__":Str))=false:=by decide)
  (hf:X.fn x=true\/X.env.scope.names.lookup x=some .local:=by first|exact .inl rfl|exact .inr rfl|assumption)
  (LK:attributeBase (.Name x p1) "pop" X.env (eval (.Name x p1) X.env)=eval (.Name x p1) X.env:=by rfl) (hb2:attributeBase (.Name x p2) "pop" X.env (eval (.Name x p2) X.env)=eval (.Name x p2) X.env:=by rfl)
  (hw1:((backTo BM (starEach [e1] X.env)).all (λx=>!x.1)&&(backToKw BM (keywordEach [] X.env)).all (λx=>x.1.isSome)&&decide (([e1]:List Expr).length+([]:List Keyword).length+(if ([]:List Keyword).isEmpty then 0 else 1)<30))=true:=by rfl)
  (LV:((backTo BN (starEach [e2] X.env)).all (λx=>!x.1)&&(backToKw BN (keywordEach [] X.env)).all (λx=>x.1.isSome)&&decide (([e2]:List Expr).length+([]:List Keyword).length+(if ([]:List Keyword).isEmpty then 0 else 1)<30))=true:=by rfl)
  (LR:(JR.endLine==BM.line)=true:=by rfl) (IV:(JS.endLine==BN.line)=true:=by rfl) (m8:starEach [e1] X.env=(false,eval e1 X.env)::starEach [] X.env:=by rfl) (gT:starEach [e2] X.env=(false,eval e2 X.env)::starEach [] X.env:=by rfl)
  (hp1:(backTo BM (starEach [] X.env)).any (·.1)=false:=by rfl) (QS:(backTo BN (starEach [] X.env)).any (·.1)=false:=by rfl)
  (vG:starEach [.Call (.Attribute (.Name x p1) "pop" JR) [e1] [] BM] X.env=(false,eval (.Call (.Attribute (.Name x p1) "pop" JR) [e1] [] BM) X.env)::starEach [] X.env:=by rfl)
  (sP:starEach [.Call (.Attribute (.Name x p2) "pop" JS) [e2] [] BN] X.env=(false,eval (.Call (.Attribute (.Name x p2) "pop" JS) [e2] [] BN) X.env)::starEach [] X.env:=by rfl)
  (j6:swapsWith (.BinOp (.BinOp (.List [.Call (.Attribute (.Name x p1) "pop" JR) [e1] [] BM] YD) .Add (.List [.Call (.Attribute (.Name x p2) "pop" JS) [e2] [] BN] MO) Yz) .Add (.Name x p3) YA) (some (.Name x px)) pos.line X.env=pure false:=by rfl):
  DSt Z X md rn (.Assign [.Name x px] (.BinOp (.BinOp (.List [.Call (.Attribute (.Name x p1) "pop" JR) [e1] [] BM] YD) .Add (.List [.Call (.Attribute (.Name x p2) "pop" JS) [e2] [] BN] MO) Yz) .Add (.Name x p3) YA) pos) (P7 md i t1 t2):=by
 refine(jM hN hi hx (wy qZ (wy qZ (lJ (bV (qc PySem.F.plainAttrs_list PySem.F.slot_list_pop PySem.F.type_list_pop yM (pv i hi hv hd dh) (bV h1 dO m8) LK hw1 LR m8 hp1) dO vG)) (lJ (bV (qc PySem.F.plainAttrs_list PySem.F.slot_list_pop PySem.F.type_list_pop yM (pv i hi hv hd dh) (bV h2 dO gT) hb2 LV IV gT QS) dO sP))) (pv i hi hv hd dh)) j6 hf).imp ?_;rintro D σ H ⟨B,ρ,E,⟨G,fp,S⟩,⟨l,q1,lz,h⟩,M⟩;obtain⟨a,xs,ds,w1,w2,w3,w4,_⟩:=S.one hm q1;cases w1;refine⟨_,w2,ty_list w3,G,_,_,S.ex.sub,S.mW,h,?_⟩;rintro _ ⟨j1,d1,rfl,lt1,xw,h⟩ v1 G1 H1 x1 sH;have S1:=S.grow x1;obtain⟨a',Ho,ds1,y1,y2,y3,y4,put⟩:=S1.one hm q1;cases y1;rw[w2] at y2;cases y2;have fI:=y4.length;obtain⟨u1,QX,du1⟩:=y4.get xw;obtain⟨s1,s2,s3,s4⟩:=qM (BE (show j1<Ho.length by omega))
 refine⟨a,Ho,(j1:Int),j1,u1,rfl,by rw[sH.ofInt],y3,by omega,by omega,s1,QX,?_⟩
 have S2:=put _ _ (y4.erase j1);refine⟨by show 1<=sizeLine;decide,λp hp=>?_⟩
 have S3:=S2.grow (.new (o:= .lst [u1]) S2.ex.sub hp);have q3:(ρ.set i (some (.lst (l.eraseIdx j1))))[i]? =some (some (.lst (l.eraseIdx j1))):=gF (cT.mp q1).1;obtain⟨a3,xs3,ds3,z1,z2,z3,z4,_⟩:=S3.one hm q3;cases z1;refine⟨_,z2,ty_list z3,_,_,_,S3.ex.sub,S3.mW,h,?_⟩;rintro _ ⟨j2,d2,rfl,By,at2,h⟩ v2 G4 H4 x4 qC;have S4:=S3.grow x4;obtain⟨a4,xs4,ds4,r1,r2,r3,r4,Za⟩:=S4.one hm q3;cases r1;rw[z2] at r2;cases r2;have EZ:=r4.length;obtain⟨u2,Di,du2⟩:=r4.get at2;obtain⟨c1,c2,c3,c4⟩:=qM (BE (show j2<xs4.length by omega))
 have le:(l.eraseIdx j1).length<=1000:=by rw[List.length_eraseIdx];split<;>omega
 refine⟨a3,xs4,(j2:Int),j2,u2,rfl,by rw[qC.ofInt],r3,by omega,by omega,c1,Di,?_⟩
 have S5:=Za _ _ (r4.erase j2);have gp:(upd G1 p (.lst [u1])) p=some (.lst [u1]):=au;have Vq:G4 p=some (.lst [u1]):=x4.gg _ _ gp;refine⟨by show 1<=sizeLine;decide,λBK EV=>?_⟩
 have S6:=S5.grow (.new (o:= .lst [u2]) S5.ex.sub EV)
 have np:p≠BK:=λz=>by
  have:=S5.ex.sub _ _ Vq
  rw[z,EV] at this;cases this
 refine⟨p,BK,[u1],[u2],rfl,rfl,?_,au,by show 1+1<=sizeLine;decide,λJQ IZ=>?_⟩
 ·rw[aw np];exact S5.ex.sub _ _ Vq
 have S7:=S6.grow (.new (o:= .lst ([u1]++ [u2])) S6.ex.sub IZ);have q7:((ρ.set i (some (.lst (l.eraseIdx j1)))).set i (some (.lst ((l.eraseIdx j1).eraseIdx j2))))[i]? =some (some (.lst ((l.eraseIdx j1).eraseIdx j2))):=gF (by rw[cM];exact(cT.mp q1).1)
 obtain⟨a7,xs7,ds7,b1,b2,b3,b4,_⟩:=S7.one hm q7;cases b1;have aaA:=b4.length;have le2:((l.eraseIdx j1).eraseIdx j2).length<=1000:=by rw[List.length_eraseIdx];split<;>omega
 refine⟨_,b2,JQ,a7,_,_,rfl,rfl,au,b3,?_,λp4' OF=>?_⟩
 ·show 2+xs7.length<=sizeLine
  have:(1002:Nat)<=sizeLine:=by decide
  omega
 have gg1:aM G1 (upd (upd G4 BK (.lst [u2])) JQ (.lst ([u1]++ [u2]))):=λb o eb=>by
  have e1:(upd G1 p (.lst [u1])) b=some o:=by
   have:b≠p:=λz=>by
    have:=S2.ex.sub _ _ eb
    rw[z,hp] at this;cases this
   rw[aw this];exact eb
  have e4:=x4.gg _ _ e1
  have n2:b≠BK:=λz=>by
   have:=S5.ex.sub _ _ e4
   rw[z,EV] at this;cases this
  have e5:(upd G4 BK (.lst [u2])) b=some o:=by rw[aw n2];exact e4
  have n3:b≠JQ:=λz=>by
   have:=S6.ex.sub _ _ e5
   rw[z,IZ] at this;cases this
  rw[aw n3];exact e5
 have gg4:aM G4 (upd (upd G4 BK (.lst [u2])) JQ (.lst ([u1]++ [u2]))):=λb o e4=>by
  have n2:b≠BK:=λz=>by
   have:=S5.ex.sub _ _ e4
   rw[z,EV] at this;cases this
  have e5:(upd G4 BK (.lst [u2])) b=some o:=by rw[aw n2];exact e4
  have n3:b≠JQ:=λz=>by
   have:=S6.ex.sub _ _ e5
   rw[z,IZ] at this;cases this
  rw[aw n3];exact e5
 obtain⟨o1,o2,o3⟩:=rb (Ext.refl S7.ex.sub) OF ((DvAll.cons (du1.mono gg1) (DvAll.cons (du2.mono gg4) .nil)).append b4);have S8:=(S7.grow ((Ext.refl S7.ex.sub).side OF)).Fp hm o1 o2 (λb hb=>⟨S7.ex.hh.free (o3 b hb).1,(o3 b hb).2⟩) λb hb j _ hj=>(S7.nw j b hj).2.1 (o3 b hb).1;rw[List.set_set,List.set_set] at S8;exact M.nx _ h _ _ ⟨_,_,S8⟩
end
end L2
namespace lg
open PySem L2 Wb
variable {P:Program} {w:World} {mg:Str->Option Value} {base:Heap} {Z:DC} (T:Txt Z mg)
open Wy Ws
def KA:bP:=λds P=>∃(n:Nat)(num:Int),ds= [ag n, .int num]/\n<=8/\∀ls:List (List Int),ls.length=n->(∀l∈ls,l.Perm [0,1,2])->P (mJ ls)
theorem Rv:∀k1,k1<3->∀k2,k2<2->∃(l:List Int)(d1 d2:D),l.Perm [0,1,2]/\[D.int 0,D.int 1,D.int 2][k1]? =some d1/\k2<([D.int 0,D.int 1,D.int 2].eraseIdx k1).length/\([D.int 0,D.int 1,D.int 2].eraseIdx k1)[k2]? =some d2/\[d1]++ [d2]++([D.int 0,D.int 1,D.int 2].eraseIdx k1).eraseIdx k2=cm l
 |0,_,0,_=>⟨[0,1,2],_,_,by decide,rfl,by decide,rfl,rfl⟩
 |0,_,1,_=>⟨[0,2,1],_,_,by decide,rfl,by decide,rfl,rfl⟩
 |1,_,0,_=>⟨[1,0,2],_,_,by decide,rfl,by decide,rfl,rfl⟩
 |1,_,1,_=>⟨[1,2,0],_,_,by decide,rfl,by decide,rfl,rfl⟩
 |2,_,0,_=>⟨[2,0,1],_,_,by decide,rfl,by decide,rfl,rfl⟩
 |2,_,1,_=>⟨[2,1,0],_,_,by decide,rfl,by decide,rfl,rfl⟩
theorem ur:FnOk P w Z.K mg base bB 1 T.d__law_lists.f T.d__law_lists.fd ["_law_many","_law_number"] (gz Z 1 KA):=by
 have nd:=nJ.nd;refine kE 1 T.d__law_lists.F nJ [0,0,1,0,1] (by decide) (λds R h=>by obtain⟨_,_,rfl,_⟩:=h;rfl) (λbc A outer s H E ds R hr h=>?_)
 have hu:=hr.units
 refine⟨_,(af (hJ 2 nd (eo ae))
   (af (vx rfl PassesOwn.never (vv rfl T.B.range (ab (aa 0) ae)) (aG 3 nd) (af (hJ 4 nd (eo (ab ao (ab ao (ab ao ae)))))
   (af (Im 4 nd (az cv (aa 1) ao) (az cv (az eY (aa 1) ao) ao))
   (af (aH false 1 nd (az eY (aa 1) ao))
   (ai (Il 2 4))))))
   (ai (A4 2)))),?_⟩
 obtain⟨n,num,rfl,n8,q⟩:=h;refine⟨by show 0<=sizeLine;decide,?_⟩
 refine⟨_,rfl,⟨by omega,by omega⟩,?_⟩
 rw[show((n:Int)).toNat=n by omega]
 refine yz (λj ρ=>∃(x:Int)(ls:List (List Int))(o3 o4:Option D),ρ= [some (ag n),some (.int x),some (mJ ls),o3,o4]/\ls.length=j/\∀l∈ls,l.Perm [0,1,2]) ⟨num,[],none,none,rfl,rfl,λl h=>by cases h⟩ ?_ ?_
 ·rintro j _ hj ⟨x,ls,o3,o4,rfl,hl,hp⟩ A hA
  have m1:=gU x 3 (by decide)
  have m2:=gU (x / 3) 2 (by decide)
  obtain⟨l,d1,d2,pl,g1,g2,g3,g4⟩:=Rv (x%3).toNat (by omega) (x / 3%2).toNat (by omega)
  refine⟨by show 3<=sizeLine;decide,?_⟩
  refine⟨[.int 0, .int 1, .int 2],rfl,by decide,_,rfl,(by show(0:Int)<3;decide),(x%3).toNat,d1,?_,by show _<3;omega,g1,_,rfl,⟨by decide,by decide⟩,(by show(0:Int)<2;decide),(x / 3%2).toNat,d2,?_,g2,g3,?_⟩
  ·show D.int (x%3)= .int (((x%3).toNat:Nat):Int)
   rw[Int.toNat_of_nonneg m1.1]
  ·show D.int (x / 3%2)= .int (((x / 3%2).toNat:Nat):Int)
   rw[Int.toNat_of_nonneg m2.1]
  rw[g4];refine⟨_,rfl,⟨by decide,by decide⟩,trivial,?_⟩
  refine⟨_,_,rfl,rfl,fw (by rw[aI];omega),hA _ ⟨x / 6,ls++ [l],some (ag j),none,?_,by rw[dG,hl];rfl,λy hy=>?_⟩⟩
  ·unfold mJ
   rw[fc];rfl
  ·rcases fR.mp hy with hy|hy
   ·exact hp y hy
   ·rw[iI.mp hy];exact pl
 ·rintro _ ⟨x,ls,o3,o4,rfl,hl,hp⟩
  exact⟨_,rfl,q ls hl hp⟩
end lg
namespace Ws
open Wb
theorem fits_sound{w:W}{ls:List (List Int)}:∀(m:Nat)(dy:Dy)(o:Option Pq),eD w ls m dy o=true->dy.length=w.length->∀dz,Ok w ls dz->Full w dz->¬More dy dz
 |0,_,_,h,_=>by cases h
 |_+1,_,none,h,_=>by cases h
 |m+1,dy,some (.full p),h,hl=>λdz o f mo=>by
  rw[eD,iJ] at h;obtain⟨k,rfl,h1,h2⟩:=oI h.1;have h3:=h.2;rw[og] at h3;cases e:bY dz k with
  |none=>exact f k (by omega) e
  |some d=>
   obtain⟨a,b⟩:=o.2 k d e
   have:d∈left w ls dy k:=sZ.mpr ⟨a,λq hq z=>b q hq (mo q d z)⟩
   rw[List.isEmpty_iff.mp h3] at this;cases this
 |m+1,dy,some (.mR p ps),h,hl=>λdz o f mo=>by
  rw[eD,iJ,iJ] at h;obtain⟨k,rfl,h1,h2⟩:=oI h.1;obtain⟨_,h4,h5⟩:=h;rw[og] at h4 h5;have h4:=of_decide_eq_true h4;cases e:bY dz k with
  |none=>exact f k (by omega) e
  |some d=>
   obtain⟨a,b⟩:=o.2 k d e;have hd:d∈left w ls dy k:=sZ.mpr ⟨a,λq hq z=>b q hq (mo q d z)⟩;obtain⟨i,hi⟩:=pA a;have li:i<ps.length:=by rw[h4];exact(cT.mp hi).1
   have hz:(d,ps[i])∈(lst ls k).zip ps:=eS (i:=i) (by rw[Ey];exact⟨hi,bL li⟩)
   have hf:=jZ.mp h5 _ hz;rw[if_pos hd] at hf;refine fits_sound m _ _ hf (by rw[cM];exact hl) dz o f λr c hr=>?_
   rw[uI h1] at hr
   by_cases e1:k=r
   ·rw[if_pos e1] at hr;cases hr;rw[<-e1];exact e
   ·rw[if_neg e1] at hr;exact mo r c hr
structure zu (n:Nat) (ls:List (List Int)):Prop where
 ll:ls.length=n
 ex:∃p0,p0<n/\(∀p,p<n->p≠p0->(lst ls p).Perm [0,1,2])/\∃l:List Int,l.Perm [0,1,2]/\(lst ls p0=l\/lst ls p0=l.take 2)
theorem Jd{l:List Int}(h:l.Perm [0,1,2]){d:Int}:d∈l↔0<=d/\d<3:=by
 rw[h.mem_iff];simp only[cD,iK,or_false];omega
theorem zu.lt{n:Nat}{ls:List (List Int)}(L:zu n ls){p:Nat}{d:Int}(h:d∈lst ls p):p<n/\0<=d/\d<3:=by
 have hp:p<n:=by
  apply Classical.byContradiction;intro z;unfold lst at h;rw[bb,eQ (by rw[L.ll];omega)] at h
  cases h
 refine⟨hp,?_⟩;obtain⟨p0,_,h1,l,hl,h2⟩:=L.ex
 by_cases e:p=p0
 ·subst e
  rcases h2 with e|e
  ·rw[e] at h;exact(Jd hl).mp h
  ·rw[e] at h;exact(Jd hl).mp (List.mem_of_mem_take h)
 ·exact(Jd (h1 p hp e)).mp h
theorem zu.len{n:Nat}{ls:List (List Int)}(L:zu n ls)(p:Nat):(lst ls p).length<=100:=by
 by_cases hp:p<n
 ·obtain⟨p0,_,h1,l,hl,h2⟩:=L.ex
  by_cases e:p=p0
  ·subst e
   have:=hl.length_eq
   rcases h2 with e|e
   ·rw[e,this];decide
   ·rw[e,fj];omega
  ·rw[(h1 p hp e).length_eq];decide
 ·unfold lst
  rw[bb,eQ (by rw[L.ll];omega)]
  exact cI _
theorem Ll{w:W}{ls:List (List Int)}(L:zu w.length ls){dz:Dy}(o:Ok w ls dz)(f:Ws.Full w dz)(g:Good w):∃c,qq w c:=by
 have key:∀p,p<w.length->∃d:Int,bY dz p=some d/\0<=d/\d<3:=λp hp=>by
  cases e:bY dz p with
  |none=>exact absurd e (f p hp)
  |some d=>exact⟨d,rfl,(L.lt (o.2 p d e).1).2⟩
 refine⟨λp=>((bY dz p).getD 0).toNat,λp hp=>?_,λp q hq e=>?_⟩
 ·obtain⟨d,e,h0,h3⟩:=key p hp
  rw[e];show d.toNat<3;omega
 ·obtain⟨d,ed,h0,_⟩:=key p (aQ hq)
  obtain⟨d',Vg,Vu,_⟩:=key q (g.rng _ _ hq);rw[ed,Vg] at e;have e:d.toNat=d'.toNat:=e
  have:d'=d:=by omega
  exact(o.2 p d ed).2 q hq (by rw[Vg,this])
theorem Rl{w:W}{ls:List (List Int)}(L:zu w.length ls)(g:Good w)(n2:2<=w.length){c:Nat->Nat}(C:qq w c):∃dz,Ok w ls dz/\Ws.Full w dz:=by
 obtain⟨p0,Gm,h1,l,hl,h2⟩:=L.ex
 obtain⟨a,ha,a3⟩:∃a:Nat,(a:Int)∈lst ls p0/\a<3:=by
  match l,hl with
  | [],h=>have:=h.length_eq;simp at this
  |x::t,h=>
   have hx:=(Jd h (d:=x)).mp (cw ..);refine⟨x.toNat,?_,by omega⟩
   rw[show((x.toNat:Nat):Int)=x by omega]
   rcases h2 with e|e
   ·rw[e];exact cw ..
   ·rw[e];exact cw ..
 obtain⟨q,hq⟩:∃q,q∈row w p0:=List.exists_mem_of_ne_nil _ (g.Ao (by omega) Gm)
 obtain⟨b,hb,ne⟩:∃b,b<3/\a≠b:=⟨if a=0 then 1 else 0,by split<;>omega,by split<;>omega⟩
 have C':=C.any g hq a3 hb ne;generalize hc:(λp=>if c p=c p0 then a else if c p=c q then b else 3-a-b)=c' at C';have e0:c' p0=a:=by rw[<-hc];simp
 have at_:∀p,bY ((List.range w.length).map λp=>some ((c' p:Nat):Int)) p=if p<w.length then some ((c' p:Nat):Int) else none:=λp=>by
  unfold bY;rw[bb,cL]
  by_cases h:p<w.length
  ·rw[ud h,if_pos h];rfl
  ·rw[eQ (by rw[kX];omega),if_neg h];rfl
 refine⟨(List.range w.length).map λp=>some ((c' p:Nat):Int),⟨by rw[aI,kX],λp d hd=>?_⟩,λp hp=>by rw[at_,if_pos hp];simp⟩
 rw[at_] at hd
 by_cases hp:p<w.length
 ·rw[if_pos hp] at hd
  cases hd;have lt:=C'.lt p hp;refine⟨?_,λr hr e=>?_⟩
  ·by_cases e:p=p0
   ·subst e;rw[e0];exact ha
   ·exact(Jd (h1 p hp e)).mpr ⟨by omega,by omega⟩
  ·rw[at_,if_pos (g.rng _ _ hr)] at e
   have:=C'.ne _ _ hr
   have e:=Option.some.inj e;omega
 ·rw[if_neg hp] at hd;cases hd
theorem GJ{w:W}{ls:List (List Int)}{q:lq}(h:pQ w ls w.length (List.replicate w.length none) q):¬∃dz,Ok w ls dz/\Ws.Full w dz:=λ⟨dz,o,f⟩=>
 fits_sound _ _ _ (sI _ _ _ h (kW ..)) (kW ..) dz o f λp d e=>by
  unfold bY at e;rw[bb,n6] at e
  split at e<;>cases e
end Ws
namespace lg
open PySem L2 Wb
variable {P:Program} {w:World} {mg:Str->Option Value} {base:Heap} {Z:DC} (T:Txt Z mg)
open Wy Ws
theorem EK{a b:Bool}{P:D->Prop}(h:P (.bl (a !=b))):CL (.bl a) (.bl b) P:=⟨.bool a, .bool b,rfl,rfl,by simp[PyData.depth],by
 have:PyData.eqv (.bool a) (.bool b)=(a==b):=by cases a<;>cases b<;>simp[PyData.eqv]
 rw[if_pos rfl,this];exact h⟩
theorem Jr{n:Nat}{ls:List (List Int)}(h1:1<=n)(hl:ls.length=n)(hp:∀l∈ls,l.Perm [0,1,2]):zu n ls:=by
 have at_:∀p,p<n->(lst ls p).Perm [0,1,2]:=λp h=>by
  unfold lst;rw[bb,bL (by rw[hl];exact h)]
  exact hp _ (kZ _)
 exact⟨hl,0,h1,λp gJ _=>at_ p gJ,_,at_ 0 h1, .inl rfl⟩
theorem Js{n p0:Nat}{ls:List (List Int)}(h0:p0<n)(hl:ls.length=n)(hp:∀l∈ls,l.Perm [0,1,2]):zu n (ls.set p0 ((lst ls p0).take 2)):=by
 have at_:∀p,p<n->(lst ls p).Perm [0,1,2]:=λp h=>by
  unfold lst;rw[bb,bL (by rw[hl];exact h)]
  exact hp _ (kZ _)
 refine⟨by rw[cM];exact hl,p0,h0,λp gJ ne=>?_,_,at_ p0 h0, .inr ?_⟩
 ·have:lst (ls.set p0 ((lst ls p0).take 2)) p=lst ls p:=by
   unfold lst;rw[bb,gG (Ne.symm ne),<-bb]
  rw[this];exact at_ p gJ
 ·unfold lst
  rw[bb,gF (by rw[hl];exact h0)];rfl
theorem Mp:FnOk P w Z.K mg base bB 21 T.d_law.f T.d_law.fd ["_law_script"] (aF Z Fs):=by
 have nd:=Fo.nd;refine aP T.d_law.F Fo [0,0,0,0,1,0,0,0,0] (by decide) (λds R h=>by obtain⟨_,rfl,_⟩:=h;rfl) (λbc A outer s H E ds R hr h=>?_)
 have hu:=hr.units
 refine⟨_,(af (aH false 1 nd (ax T.d__law_filled (uw T) hr (ab (aa 0) ae)))
   (af (aH false 2 nd (aA aX rfl T.B.len aW (ab (aa 1) ae)))
   (af (aH false 3 nd (ax T.d__law_drawn (jq T) hr (ab (ax T.d__law_cell_at (cS T) hr (ab (aa 0) (ab ao ae))) ae)))
   (af (hJ 4 nd (iT T.d__law_lists (ur T) hr (ab (aa 2) (ab (aa 3) ae))))
   (af (aH false 5 nd (az cv (az eY (ax T.d__law_cell_at (cS T) hr (ab (aa 0) (ab ao ae))) ao) (aa 2)))
   (af (bh (aK (gf hu) (az cv (ax T.d__law_cell_at (cS T) hr (ab (aa 0) (ab ao ae))) ao) ao (aR _)) (ai (gQ 4 (aa 5) (FW (aJ (aa 4) (aa 5)) cX (cY ao)))) aO)
   (A6 4
   (af (aH false 6 nd (ax T.d__law_web (Ag T) hr (ab (aa 1) ae)))
   (af (aH false 7 nd (ax T.d_three_dyes (wg T) hr (ab (aa 6) ae)))
   (af (aH false 8 nd (ax T.d_searched (Aj T) hr (ab (aa 6) (ab (jc (NC:= ["_law_row"]) (src:= [none]) rfl (lB (aq Aq)) trivial (bG (aa 4)) (λ_ _ _=>(bF 0 (show(["_law_row"]:List Str).Nodup from by decide+kernel))) (λ_ _ _=>cZ) (λ_ _ _=>(jb qs rfl T.B.list kB (ab (aa 0) ae)))) ae))))
   (af (bh (aK (pV hu) (oi (gf hu) (aJ (aa 7) ao) dj (aR _)) (oi (gf hu) (aJ (aa 8) ao) dj (aR _)) (aR _)) (ai (aE f6)) aO)
   (af (bh (aK (gf hu) (aJ (aa 8) ao) dj (aR _)) (ai (aE (ax T.d__law_dyed (xR T) hr (ab (aa 1) (ab (aa 4) (ab (aJ (aa 8) ao) ae)))))) aO)
   (ai (aE (oi Mo (ax T.d_is_paper (Ah T) hr (ab (aa 6) (ab (aa 4) (ab (aJ (aa 8) ao) ae)))) f6 (aR _)))))))))))))))),?_⟩
 obtain⟨ns,rfl,_,q⟩:=h;refine⟨_,rfl,ns,rfl,λw' F h8=>⟨trivial,?_⟩⟩;have g:=F.g;have n3:=F.n3;have lw:(w'.map av).length=w'.length:=aI _;refine⟨_,rfl,?_⟩;dsimp only[cW,eN,ay];refine⟨trivial,?_⟩;refine⟨_,rfl,ns,3,rfl,λc3=>⟨c3,rfl,λnum=>⟨trivial,?_⟩⟩⟩;refine fB [some (.lN ns),some (ay w'),some (ag w'.length),some (.int num),none,none,none,none,none] (by rw[lw];rfl) ?_
 refine⟨_,rfl,_,rfl,w'.length,num,rfl,h8,λxO hl hp=>⟨_,rfl,?_⟩⟩;refine⟨_,rfl,ns,4,rfl,λc4=>⟨⟨by decide,by decide⟩,_,rfl,(by show(0:Int)<(w'.length:Int);omega),trivial,?_⟩⟩
 have m1:=gU (c4 / 2) (w'.length:Int) (by omega)
 generalize hpt:c4 / 2%(w'.length:Int)=pt at m1;obtain⟨p0,rfl⟩:∃p:Nat,pt=(p:Int):=⟨pt.toNat,by omega⟩
 have Gm:p0<w'.length:=by omega
 refine vY [some (.lN ns),some (ay w'),some (ag w'.length),some (.int num),some (mJ xO),some (ag p0),none,none,none] (by unfold ag;rw[<-hpt];rfl) ?_
 dsimp only;refine M7 (λρ=>∃ls,ρ= [some (.lN ns),some (ay w'),some (ag w'.length),some (.int num),some (mJ ls),some (ag p0),none,none,none]/\zu w'.length ls) (λE' hE=>?_) ?_
 ·refine⟨_,rfl,ns,4,rfl,λc5=>⟨(by show(0:Int)<2;decide),?_⟩⟩
  refine xE ⟨_,rfl,bN (λ_=>?_) (λ_=>hE _ ⟨xO,rfl,Jr (by omega) hl hp⟩)⟩
  have pl:(lst xO p0).Perm [0,1,2]:=by
   unfold lst;rw[bb,bL (by rw[hl];exact Gm)]
   exact hp _ (kZ _)
  have ll3:(lst xO p0).length=3:=pl.length_eq
  have ct:cutD (cm (lst xO p0)) none (some 2)=cm ((lst xO p0).take 2):=by
   have:=fZ (cm (lst xO p0)) 2 (by rw[ji,ll3];decide)
   rw[show((2:Nat):Int)=2 from rfl] at this;rw[this];unfold cm;rw[r9]
  refine⟨_,rfl,_,rfl,_,bC (oG (by rw[hl];exact Gm)),?_⟩
  refine(?_:(cutD (cm (lst xO p0)) none (some 2)).all df=true/\_);rw[ct];refine⟨jI _,_,rfl,_,rfl,_,p0,rfl,bU (by rw[aI,hl];exact Gm),hE _ ⟨xO.set p0 ((lst xO p0).take 2),?_,Js Gm hl hp⟩⟩
  unfold mJ;rw[xp];rfl
 rintro _ ⟨ls,rfl,L⟩;have sz:∀dy:Ws.Dy,dy.length=w'.length->Sz w' ls dy:=λdy hd=>⟨g,by omega,h8,L.ll,hd,λp=>L.len p,λp=>by have:=e9 g p;omega⟩
 refine⟨⟨_,rfl⟩,?_⟩;refine⟨_,rfl,w',rfl,g,by omega,by omega,trivial,?_⟩
 have Xb:ls.length<=sizeLine:=small (by rw[L.ll];omega)
 refine⟨_,rfl,w',rfl,F,h8,λp gJ odd=>⟨trivial,?_⟩,λc C=>⟨trivial,?_⟩⟩
 ·refine⟨_,rfl,_,rfl,fU (ρ:= [none]) (λl=>D.lst (cm l)) (λl=>D.lst (cm l)) ls _ (λy hy Y h=>⟨_,rfl,h⟩) rfl Xb λaD=>⟨w',ls,rfl,sz _ (kW ..),λdz o f=>?_,λq' hq=>⟨trivial,?_⟩⟩⟩
  ·obtain⟨c,C⟩:=Ll L o f g
   have:=C.Vk g F.tri gJ
   omega
  ·refine⟨_,rfl,_,rfl,xF ⟨_,rfl,_,rfl,xF ?_⟩⟩
   refine EK ⟨_,rfl,yD (by decide+kernel) ?_⟩
   refine⟨_,rfl,_,rfl,xF ⟨_,rfl,yD (by decide+kernel) ?_⟩⟩
   refine⟨_,rfl,_,rfl,_,rfl,_,rfl,w',ls,some (A7 q'),by rw[<-Fh];rfl,sz _ (kW ..),?_⟩
   rw[sI _ _ _ hq (kW ..)];exact q
 ·refine⟨_,rfl,_,rfl,fU (ρ:= [none]) (λl=>D.lst (cm l)) (λl=>D.lst (cm l)) ls _ (λy hy Y h=>⟨_,rfl,h⟩) rfl Xb λaD=>⟨w',ls,rfl,sz _ (kW ..),λdz o f=>⟨trivial,?_⟩,λq' hq=>absurd (Rl L g (by omega) C) (GJ hq)⟩⟩
  refine⟨_,rfl,_,rfl,xF ⟨_,rfl,_,rfl,xF ?_⟩⟩;refine EK ⟨_,rfl,yD (by decide+kernel) ?_⟩
  refine⟨_,rfl,_,rfl,xF ⟨true,congrArg D.bl (decide_eq_true rfl),b9 ?_⟩⟩;exact⟨_,rfl,_,rfl,_,rfl,_,rfl,w',ls,dz,rfl,sz dz o.1,o,f,q⟩
theorem all_mk{l:PySem.W.OpenLaw}{w:World}{K:PySem.W.Frag}{h:Heap}{mg:Str->Option Value}{fa C:Addr}{tk1:Tok}{tk2:Tok}(X:K.In h)(G:h.Ns mainGlobals mg)(hfa:mg "law"=some (.ref fa)){ts0:Tok}
  {d0:Addr} {od0 an0:Option Addr} {sl0:Array (Option Value)} {oc0 kV0 dc0 pm0 Ti ct0:Value}
  {d1:Addr} {od1 an1:Option Addr} {sl1:Array (Option Value)} {oc1 kV1 dc1 J7 Tj ct1:Value}
  {d2:Addr} {od2 an2:Option Addr} {qi:Array (Option Value)} {oc2 kV2 dc2 MP To ct2:Value}
  {d3:Addr} {od3 an3:Option Addr} {sl3:Array (Option Value)} {oc3 kV3 dc3 pm3 Tp ct3:Value}
  {d4:Addr} {od4 an4:Option Addr} {sl4:Array (Option Value)} {oc4 kV4 dc4 pm4 Tq ct4:Value}
  {d5:Addr} {od5 an5:Option Addr} {sl5:Array (Option Value)} {oc5 kV5 dc5 pm5 Tr ct5:Value}
  {d6:Addr} {od6 an6:Option Addr} {sl6:Array (Option Value)} {oc6 kV6 dc6 pm6 Ts ct6:Value}
  {d7:Addr} {od7 an7:Option Addr} {sl7:Array (Option Value)} {oc7 kV7 dc7 pm7 Tt ct7:Value}
  {d8:Addr} {od8 an8:Option Addr} {sl8:Array (Option Value)} {oc8 kV8 dc8 pm8 Tu ct8:Value}
  {d9:Addr} {od9 an9:Option Addr} {sl9:Array (Option Value)} {oc9 kV9 dc9 pm9 Tv ct9:Value}
  {Pc:Addr} {XZ Ss:Option Addr} {Zp:Array (Option Value)} {Xn Wx UA YE ND Tx:Value}
  {Pd:Addr} {X0 Su:Option Addr} {Zq:Array (Option Value)} {Xo Wz UB YF NF Tz:Value}
  {Pe:Addr} {X1 Sw:Option Addr} {Zr:Array (Option Value)} {Xp WA UC YG NG TB:Value}
  {Pf:Addr} {X2 Sx:Option Addr} {Zs:Array (Option Value)} {Xq WB UD YH NH TC:Value}
  {Pg:Addr} {X3 Sy:Option Addr} {Zt:Array (Option Value)} {Xr WC UE YI NI TF:Value}
  {Ph:Addr} {X4 SA:Option Addr} {Zu:Array (Option Value)} {Xs WD UG YJ NJ TH:Value}
  {Pj:Addr} {X5 SD:Option Addr} {Zv:Array (Option Value)} {Xt WE UH YK NK TJ:Value}
  {Pk:Addr} {X6 SE:Option Addr} {Zw:Array (Option Value)} {Xu WG UI YL NL TK:Value}
  {Pl:Addr} {X7 SG:Option Addr} {Zx:Array (Option Value)} {Xv WH UJ YM NM TL:Value}
  {Pm:Addr} {X8 SH:Option Addr} {Zy:Array (Option Value)} {Xw WI UK YN NN TM:Value}
  {Pn:Addr} {X9 SJ:Option Addr} {Zz:Array (Option Value)} {Xx WJ UL YO NO TN:Value}
  {Po:Addr} {Ya SK:Option Addr} {ZA:Array (Option Value)} {Xy WK UM YQ NP TQ:Value}
  {Pp:Addr} {Yb SM:Option Addr} {ZC:Array (Option Value)} {Xz WL UN YR NQ TR:Value}
  {Pr:Addr} {Yc SN:Option Addr} {ZD:Array (Option Value)} {XA WM UO YS NS TU:Value}
  {Pt:Addr} {Yd SO:Option Addr} {ZE:Array (Option Value)} {XB WN UP YT NT TV:Value}
  {Pu:Addr} {Ye SQ:Option Addr} {ZF:Array (Option Value)} {XE WO UQ YU NU TX:Value}
  {Pw:Addr} {Yf SR:Option Addr} {ZG:Array (Option Value)} {XF WQ UR YV NV TY:Value}
  {Px:Addr} {Yg SS:Option Addr} {ZH:Array (Option Value)} {XG WR US YW NW TZ:Value}
  {Py:Addr} {Yh SU:Option Addr} {ZI:Array (Option Value)} {XH WS UT YX NY T3:Value}
  {Pz:Addr} {Yi SV:Option Addr} {ZJ:Array (Option Value)} {XI WT UU YY NZ T4:Value}
  {PB:Addr} {Yj SW:Option Addr} {ZK:Array (Option Value)} {XJ WU UW YZ N0 T5:Value}
  {PC:Addr} {Yk SX:Option Addr} {ZL:Array (Option Value)} {XM WV UX Y0 N3 T6:Value}
  {PD:Addr} {Yl SY:Option Addr} {ZM:Array (Option Value)} {XO WW UY Y1 N4 T7:Value}
  {PF:Addr} {Ym S0:Option Addr} {ZO:Array (Option Value)} {XQ WX UZ Y2 N5 T8:Value}
  {PH:Addr} {Yn S9:Option Addr} {ZP:Array (Option Value)} {XR WY U0 Y3 N6 T9:Value}
  {PJ:Addr} {Yo Ta:Option Addr} {ZQ:Array (Option Value)} {XS WZ U1 Y4 N7 Ub:Value}
  {PK:Addr} {Yp Tb:Option Addr} {ZR:Array (Option Value)} {XT W0 U2 Y5 N8 Uc:Value}
  {PL:Addr} {Yq Tc:Option Addr} {ZS:Array (Option Value)} {XU W2 U3 Y6 N9 Ud:Value}
  {PM:Addr} {Yr Td:Option Addr} {ZU:Array (Option Value)} {XW W3 U4 Y7 Oa Ue:Value}
  {PN:Addr} {Ys Te:Option Addr} {ZV:Array (Option Value)} {XX W4 U5 Y8 Ob Ug:Value}
  {PQ:Addr} {Yt Tf:Option Addr} {ZW:Array (Option Value)} {XY W5 U6 Y9 Oc Uh:Value}
  {i0:Addr} {jd0 jn0:Option Addr} {js0:Array (Option Value)} {jc0 jk0 jo0 jp0 Wq jt0:Value}
  {i1:Addr} {jd1 jn1:Option Addr} {js1:Array (Option Value)} {jc1 jk1 jo1 jp1 Wr jt1:Value}
  {i2:Addr} {jd2 jn2:Option Addr} {js2:Array (Option Value)} {jc2 jk2 jo2 jp2 Wt jt2:Value}
  {i3:Addr} {jd3 jn3:Option Addr} {js3:Array (Option Value)} {jc3 jk3 jo3 jp3 Wu jt3:Value}
  {i4:Addr} {jd4 jn4:Option Addr} {js4:Array (Option Value)} {jc4 jk4 jo4 jp4 Wv jt4:Value}
  {i5:Addr} {jd5 jn5:Option Addr} {js5:Array (Option Value)} {jc5 jk5 jo5 jp5 Ww jt5:Value}
  (gC:PySem.W.nsIn K mainGlobals "Web"=some (some (.ref C)))
  (a0:dY K "round_from" d0)
  (l0:cN K "round_from" "round_from" ku d0 od0 an0 sl0 oc0 kV0 dc0 pm0 Ti ct0)
  (c0:PySem.W.codeIn K Ti "round_from"=true)
  (k0:PySem.W.keepIn K (.ref d0)=true)
  (a1:dY K "lands" d1)
  (l1:cN K "lands" "lands" nB d1 od1 an1 sl1 oc1 kV1 dc1 J7 Tj ct1)
  (c1:PySem.W.codeIn K Tj "lands"=true)
  (k1:PySem.W.keepIn K (.ref d1)=true)
  (a2:dY K "count" d2)
  (l2:cN K "count" "count" wC d2 od2 an2 qi oc2 kV2 dc2 MP To ct2)
  (c2:PySem.W.codeIn K To "count"=true)
  (k2:PySem.W.keepIn K (.ref d2)=true)
  (a3:dY K "is_plane" d3)
  (l3:cN K "is_plane" "is_plane" nA d3 od3 an3 sl3 oc3 kV3 dc3 pm3 Tp ct3)
  (c3:PySem.W.codeIn K Tp "is_plane"=true)
  (k3:PySem.W.keepIn K (.ref d3)=true)
  (a4:dY K "need_plane" d4)
  (l4:cN K "need_plane" "need_plane" kr d4 od4 an4 sl4 oc4 kV4 dc4 pm4 Tq ct4)
  (c4:PySem.W.codeIn K Tq "need_plane"=true)
  (k4:PySem.W.keepIn K (.ref d4)=true)
  (a5:dY K "need_filled" d5)
  (l5:cN K "need_filled" "need_filled" jy d5 od5 an5 sl5 oc5 kV5 dc5 pm5 Tr ct5)
  (c5:PySem.W.codeIn K Tr "need_filled"=true)
  (k5:PySem.W.keepIn K (.ref d5)=true)
  (a6:dY K "third_dyed" d6)
  (l6:cN K "third_dyed" "third_dyed" fQ d6 od6 an6 sl6 oc6 kV6 dc6 pm6 Ts ct6)
  (c6:PySem.W.codeIn K Ts "third_dyed"=true)
  (k6:PySem.W.keepIn K (.ref d6)=true)
  (a7:dY K "dyed_by_lands" d7)
  (l7:cN K "dyed_by_lands" "dyed_by_lands" fE d7 od7 an7 sl7 oc7 kV7 dc7 pm7 Tt ct7)
  (c7:PySem.W.codeIn K Tt "dyed_by_lands"=true)
  (k7:PySem.W.keepIn K (.ref d7)=true)
  (a8:dY K "three_dyes" d8)
  (l8:cN K "three_dyes" "three_dyes" kz d8 od8 an8 sl8 oc8 kV8 dc8 pm8 Tu ct8)
  (c8:PySem.W.codeIn K Tu "three_dyes"=true)
  (k8:PySem.W.keepIn K (.ref d8)=true)
  (a9:dY K "is_among" d9)
  (l9:cN K "is_among" "is_among" nz d9 od9 an9 sl9 oc9 kV9 dc9 pm9 Tv ct9)
  (c9:PySem.W.codeIn K Tv "is_among"=true)
  (k9:PySem.W.keepIn K (.ref d9)=true)
  (a10:dY K "alien_fault" Pc)
  (l10:cN K "alien_fault" "alien_fault" jv Pc XZ Ss Zp Xn Wx UA YE ND Tx)
  (c10:PySem.W.codeIn K ND "alien_fault"=true)
  (k10:PySem.W.keepIn K (.ref Pc)=true)
  (a11:dY K "self_fault" Pd)
  (l11:cN K "self_fault" "self_fault" kv Pd X0 Su Zq Xo Wz UB YF NF Tz)
  (c11:PySem.W.codeIn K NF "self_fault"=true)
  (k11:PySem.W.keepIn K (.ref Pd)=true)
  (a12:dY K "twice_fault" Pe)
  (l12:cN K "twice_fault" "twice_fault" jz Pe X1 Sw Zr Xp WA UC YG NG TB)
  (c12:PySem.W.codeIn K NG "twice_fault"=true)
  (k12:PySem.W.keepIn K (.ref Pe)=true)
  (a13:dY K "lone_fault" Pf)
  (l13:cN K "lone_fault" "lone_fault" ko Pf X2 Sx Zs Xq WB UD YH NH TC)
  (c13:PySem.W.codeIn K NH "lone_fault"=true)
  (k13:PySem.W.keepIn K (.ref Pf)=true)
  (a14:dY K "reached_from_first" Pg)
  (Gw:cN K "reached_from_first" "reached_from_first" dr Pg X3 Sy Zt Xr WC UE YI NI TF)
  (c14:PySem.W.codeIn K NI "reached_from_first"=true)
  (k14:PySem.W.keepIn K (.ref Pg)=true)
  (a15:dY K "apart_fault" Ph)
  (l15:cN K "apart_fault" "apart_fault" jw Ph X4 SA Zu Xs WD UG YJ NJ TH)
  (c15:PySem.W.codeIn K NJ "apart_fault"=true)
  (k15:PySem.W.keepIn K (.ref Ph)=true)
  (a16:dY K "first_fault" Pj)
  (l16:cN K "first_fault" "first_fault" jx Pj X5 SD Zv Xt WE UH YK NK TJ)
  (c16:PySem.W.codeIn K NK "first_fault"=true)
  (k16:PySem.W.keepIn K (.ref Pj)=true)
  (a17:dY K "need_at_most" Pk)
  (l17:cN K "need_at_most" "need_at_most" iB Pk X6 SE Zw Xu WG UI YL NL TK)
  (c17:PySem.W.codeIn K NL "need_at_most"=true)
  (k17:PySem.W.keepIn K (.ref Pk)=true)
  (a18:dY K "dyes_left" Pl)
  (l18:cN K "dyes_left" "dyes_left" gB Pl X7 SG Zx Xv WH UJ YM NM TL)
  (c18:PySem.W.codeIn K NM "dyes_left"=true)
  (k18:PySem.W.keepIn K (.ref Pl)=true)
  (a19:dY K "with_dye" Pm)
  (l19:cN K "with_dye" "with_dye" nE Pm X8 SH Zy Xw WI UK YN NN TM)
  (c19:PySem.W.codeIn K NN "with_dye"=true)
  (k19:PySem.W.keepIn K (.ref Pm)=true)
  (a20:dY K "chosen_point" Pn)
  (l20:cN K "chosen_point" "chosen_point" fV Pn X9 SJ Zz Xx WJ UL YO NO TN)
  (c20:PySem.W.codeIn K NO "chosen_point"=true)
  (k20:PySem.W.keepIn K (.ref Pn)=true)
  (a21:dY K "searched_from" Po)
  (l21:cN K "searched_from" "searched_from" gZ Po Ya SK ZA Xy WK UM YQ NP TQ)
  (c21:PySem.W.codeIn K NP "searched_from"=true)
  (k21:PySem.W.keepIn K (.ref Po)=true)
  (a22:dY K "searched" Pp)
  (l22:cN K "searched" "searched" jQ Pp Yb SM ZC Xz WL UN YR NQ TR)
  (c22:PySem.W.codeIn K NQ "searched"=true)
  (k22:PySem.W.keepIn K (.ref Pp)=true)
  (a23:dY K "are_papers" Pr)
  (l23:cN K "are_papers" "are_papers" kn Pr Yc SN ZD XA WM UO YS NS TU)
  (c23:PySem.W.codeIn K NS "are_papers"=true)
  (k23:PySem.W.keepIn K (.ref Pr)=true)
  (a24:dY K "is_paper_from" Pt)
  (l24:cN K "is_paper_from" "is_paper_from" gY Pt Yd SO ZE XB WN UP YT NT TV)
  (c24:PySem.W.codeIn K NT "is_paper_from"=true)
  (k24:PySem.W.keepIn K (.ref Pt)=true)
  (a25:dY K "is_paper" Pu)
  (l25:cN K "is_paper" "is_paper" jP Pu Ye SQ ZF XE WO UQ YU NU TX)
  (c25:PySem.W.codeIn K NU "is_paper"=true)
  (k25:PySem.W.keepIn K (.ref Pu)=true)
  (a26:dY K "_law_cell_at" Pw)
  (l26:cN K "_law_cell_at" "_law_cell_at" iA Pw Yf SR ZG XF WQ UR YV NV TY)
  (c26:PySem.W.codeIn K NV "_law_cell_at"=true)
  (k26:PySem.W.keepIn K (.ref Pw)=true)
  (a27:dY K "_law_drawn" Px)
  (l27:cN K "_law_drawn" "_law_drawn" kg Px Yg SS ZH XG WR US YW NW TZ)
  (c27:PySem.W.codeIn K NW "_law_drawn"=true)
  (k27:PySem.W.keepIn K (.ref Px)=true)
  (a28:dY K "_law_grown" Py)
  (l28:cN K "_law_grown" "_law_grown" kh Py Yh SU ZI XH WS UT YX NY T3)
  (c28:PySem.W.codeIn K NY "_law_grown"=true)
  (k28:PySem.W.keepIn K (.ref Py)=true)
  (a29:dY K "_law_closed" Pz)
  (l29:cN K "_law_closed" "_law_closed" jt Pz Yi SV ZJ XI WT UU YY NZ T4)
  (c29:PySem.W.codeIn K NZ "_law_closed"=true)
  (k29:PySem.W.keepIn K (.ref Pz)=true)
  (a30:dY K "_law_after" PB)
  (l30:cN K "_law_after" "_law_after" ke PB Yj SW ZK XJ WU UW YZ N0 T5)
  (c30:PySem.W.codeIn K N0 "_law_after"=true)
  (k30:PySem.W.keepIn K (.ref PB)=true)
  (a31:dY K "_law_behind" PC)
  (l31:cN K "_law_behind" "_law_behind" js PC Yk SX ZL XM WV UX Y0 N3 T6)
  (c31:PySem.W.codeIn K N3 "_law_behind"=true)
  (k31:PySem.W.keepIn K (.ref PC)=true)
  (a32:dY K "_law_eight_faced" PD)
  (l32:cN K "_law_eight_faced" "_law_eight_faced" fL PD Yl SY ZM XO WW UY Y1 N4 T7)
  (c32:PySem.W.codeIn K N4 "_law_eight_faced"=true)
  (k32:PySem.W.keepIn K (.ref PD)=true)
  (a33:dY K "_law_split" PF)
  (l33:cN K "_law_split" "_law_split" km PF Ym S0 ZO XQ WX UZ Y2 N5 T8)
  (c33:PySem.W.codeIn K N5 "_law_split"=true)
  (k33:PySem.W.keepIn K (.ref PF)=true)
  (a34:dY K "_law_even" PH)
  (l34:cN K "_law_even" "_law_even" lM PH Yn S9 ZP XR WY U0 Y3 N6 T9)
  (c34:PySem.W.codeIn K N6 "_law_even"=true)
  (k34:PySem.W.keepIn K (.ref PH)=true)
  (a35:dY K "_law_named" PJ)
  (l35:cN K "_law_named" "_law_named" fP PJ Yo Ta ZQ XS WZ U1 Y4 N7 Ub)
  (c35:PySem.W.codeIn K N7 "_law_named"=true)
  (k35:PySem.W.keepIn K (.ref PJ)=true)
  (a36:dY K "_law_web" PK)
  (l36:cN K "_law_web" "_law_web" jO PK Yp Tb ZR XT W0 U2 Y5 N8 Uc)
  (c36:PySem.W.codeIn K N8 "_law_web"=true)
  (k36:PySem.W.keepIn K (.ref PK)=true)
  (a37:dY K "_law_dyed" PL)
  (l37:cN K "_law_dyed" "_law_dyed" iR PL Yq Tc ZS XU W2 U3 Y6 N9 Ud)
  (c37:PySem.W.codeIn K N9 "_law_dyed"=true)
  (k37:PySem.W.keepIn K (.ref PL)=true)
  (a38:dY K "_law_filled" PM)
  (l38:cN K "_law_filled" "_law_filled" ju PM Yr Td ZU XW W3 U4 Y7 Oa Ue)
  (c38:PySem.W.codeIn K Oa "_law_filled"=true)
  (k38:PySem.W.keepIn K (.ref PM)=true)
  (a39:dY K "_law_lists" PN)
  (l39:cN K "_law_lists" "_law_lists" kj PN Ys Te ZV XX W4 U5 Y8 Ob Ug)
  (c39:PySem.W.codeIn K Ob "_law_lists"=true)
  (k39:PySem.W.keepIn K (.ref PN)=true)
  (So:dY K "law" PQ)
  (l40:cN K "law" "law" Aq PQ Yt Tf ZW XY W5 U6 Y9 Oc Uh)
  (c40:PySem.W.codeIn K Oc "law"=true)
  (k40:PySem.W.keepIn K (.ref PQ)=true)
  (m0:PySem.W.findIn K (.ref C) "__init__"=some (some (.ref i0)))
  (f0:PySem.W.isFn K (.ref i0)=true)
  (ml0:cN K "__init__" "Web.__init__" fb i0 jd0 jn0 js0 jc0 jk0 jo0 jp0 Wq jt0)
  (mc0:PySem.W.codeIn K Wq "Web.__init__"=true)
  (mk0:PySem.W.keepIn K (.ref i0)=true)
  (m1:PySem.W.findIn K (.ref C) "many"=some (some (.ref i1)))
  (f1:PySem.W.isFn K (.ref i1)=true)
  (ml1:cN K "many" "Web.many" nv i1 jd1 jn1 js1 jc1 jk1 jo1 jp1 Wr jt1)
  (mc1:PySem.W.codeIn K Wr "Web.many"=true)
  (mk1:PySem.W.keepIn K (.ref i1)=true)
  (m2:PySem.W.findIn K (.ref C) "turns"=some (some (.ref i2)))
  (f2:PySem.W.isFn K (.ref i2)=true)
  (ml2:cN K "turns" "Web.turns" iQ i2 jd2 jn2 js2 jc2 jk2 jo2 jp2 Wt jt2)
  (mc2:PySem.W.codeIn K Wt "Web.turns"=true)
  (mk2:PySem.W.keepIn K (.ref i2)=true)
  (m3:PySem.W.findIn K (.ref C) "ties"=some (some (.ref i3)))
  (f3:PySem.W.isFn K (.ref i3)=true)
  (ml3:cN K "ties" "Web.ties" jN i3 jd3 jn3 js3 jc3 jk3 jo3 jp3 Wu jt3)
  (mc3:PySem.W.codeIn K Wu "Web.ties"=true)
  (mk3:PySem.W.keepIn K (.ref i3)=true)
  (m4:PySem.W.findIn K (.ref C) "tied"=some (some (.ref i4)))
  (f4:PySem.W.isFn K (.ref i4)=true)
  (ml4:cN K "tied" "Web.tied" tZ i4 jd4 jn4 js4 jc4 jk4 jo4 jp4 Wv jt4)
  (mc4:PySem.W.codeIn K Wv "Web.tied"=true)
  (mk4:PySem.W.keepIn K (.ref i4)=true)
  (m5:PySem.W.findIn K (.ref C) "behind"=some (some (.ref i5)))
  (f5:PySem.W.isFn K (.ref i5)=true)
  (ml5:cN K "behind" "Web.behind" kd i5 jd5 jn5 js5 jc5 jk5 jo5 jp5 Ww jt5)
  (mc5:PySem.W.codeIn K Ww "Web.behind"=true)
  (mk5:PySem.W.keepIn K (.ref i5)=true)
  (pgC:PySem.W.plainGet K C Str.empty=true)
  (LM:PySem.W.hasDictIn K C=true)
  (poC:PySem.W.plainOver K C=true)
  (saC:PySem.W.findIn K (.ref C) "__setattr__"=some (some (.builtin "object.__setattr__")))
  (mkC:PySem.W.makesIn K C=true)
  (kpC:PySem.W.keepIn K (.ref C)=true)
  (nR:PySem.W.findIn K (.ref C) "rows"=some none)
  (Tw:PySem.W.nsIn K mainGlobals "__name__"=some (some (.str "law_mapdye_k67_whole_wheels_and_search" ts0)))
  (cc1:PySem.W.nsIn K mainGlobals "MOST_POINTS"=some (some (.int 14 tk1)))
  (cc2:PySem.W.nsIn K mainGlobals "MOST_SEARCHED"=some (some (.int 8 tk2)))
  (aan:PySem.W.nsIn K mainGlobals "len"=some none)
  (Nt:PySem.W.nsIn K mainGlobals "range"=some none)
  (aao:PySem.W.nsIn K mainGlobals "max"=some none)
  (aap:PySem.W.nsIn K mainGlobals "min"=some none)
  (Cm:PySem.W.nsIn K mainGlobals "enumerate"=some none)
  (aas:PySem.W.nsIn K mainGlobals "zip"=some none)
  (K5:PySem.W.nsIn K mainGlobals "sorted"=some none)
  (aak:PySem.W.nsIn K mainGlobals "all"=some none)
  (Ay:PySem.W.nsIn K mainGlobals "isinstance"=some none)
  (aal:PySem.W.nsIn K mainGlobals "int"=some none)
  (R7:PySem.W.nsIn K mainGlobals "bool"=some none)
  (R8:PySem.W.nsIn K mainGlobals "list"=some none)
  (Nu:PySem.W.nsIn K mainGlobals "tuple"=some none)
  (aar:PySem.W.nsIn K mainGlobals "sum"=some none)
  (EA:PySem.W.nsIn K mainGlobals "reversed"=some none)
  (aaq:PySem.W.nsIn K mainGlobals "set"=some none)
  :∃fd:FuncData,(∀(s:Shared)(v:Value),BindsTo s fd ⟨[v],[]⟩ [("_law_script",v)])/\∀base:Heap,K.In base->base.Ns mainGlobals mg->FnOk l.prog w K mg base bB 40 fa fd ["_law_script"] (L2.rR K):=by
 have e:=hfa.symm.trans (PySem.W.mg_of X G So);cases e;have E0:=qH (st:=fb) ml0 mc0 mk0;have e0:=E0.binds (ps:= ["self","turns"]) (λ_ _ _ _ _ _ _ hl=>by obtain⟨_,_,rfl⟩:=L2.jk hl;rfl)
 let Z:DC:=⟨K,C⟩
 let T:Txt Z mg:=⟨⟨PySem.W.mg_none_of X G aan,PySem.W.mg_none_of X G Nt,PySem.W.mg_none_of X G aao,PySem.W.mg_none_of X G aap,PySem.W.mg_none_of X G Cm,PySem.W.mg_none_of X G aas,PySem.W.mg_none_of X G K5,PySem.W.mg_none_of X G aak,PySem.W.mg_none_of X G Ay,PySem.W.mg_none_of X G aal,PySem.W.mg_none_of X G R7,PySem.W.mg_none_of X G R8,PySem.W.mg_none_of X G Nu,PySem.W.mg_none_of X G aar,PySem.W.mg_none_of X G EA⟩,PySem.W.mg_none_of X G aaq, .of X G a0 l0 c0 k0 (λ_ _ _ _ _ _ _ hl=>by obtain⟨_,_,rfl⟩:=L2.jk hl;rfl), .of X G a1 l1 c1 k1 (λ_ _ _ _ _ _ _ hl=>by obtain⟨_,rfl⟩:=L2.fI hl;rfl), .of X G a2 l2 c2 k2 (λ_ _ _ _ _ _ _ hl=>by obtain⟨_,rfl⟩:=L2.fI hl;rfl), .of X G a3 l3 c3 k3 (λ_ _ _ _ _ _ _ hl=>by obtain⟨_,rfl⟩:=L2.fI hl;rfl), .of X G a4 l4 c4 k4 (λ_ _ _ _ _ _ _ hl=>by obtain⟨_,rfl⟩:=L2.fI hl;rfl), .of X G a5 l5 c5 k5 (λ_ _ _ _ _ _ _ hl=>by obtain⟨_,_,rfl⟩:=L2.jk hl;rfl), .of X G a6 l6 c6 k6 (λ_ _ _ _ _ _ _ hl=>by obtain⟨_,_,rfl⟩:=L2.jk hl;rfl), .of X G a7 l7 c7 k7 (λ_ _ _ _ _ _ _ hl=>by obtain⟨_,rfl⟩:=L2.fI hl;rfl), .of X G a8 l8 c8 k8 (λ_ _ _ _ _ _ _ hl=>by obtain⟨_,rfl⟩:=L2.fI hl;rfl), .of X G a9 l9 c9 k9 (λ_ _ _ _ _ _ _ hl=>by obtain⟨_,_,rfl⟩:=L2.jk hl;rfl), .of X G a10 l10 c10 k10 (λ_ _ _ _ _ _ _ hl=>by obtain⟨_,rfl⟩:=L2.fI hl;rfl), .of X G a11 l11 c11 k11 (λ_ _ _ _ _ _ _ hl=>by obtain⟨_,rfl⟩:=L2.fI hl;rfl), .of X G a12 l12 c12 k12 (λ_ _ _ _ _ _ _ hl=>by obtain⟨_,rfl⟩:=L2.fI hl;rfl), .of X G a13 l13 c13 k13 (λ_ _ _ _ _ _ _ hl=>by obtain⟨_,rfl⟩:=L2.fI hl;rfl), .of X G a14 Gw c14 k14 (λ_ _ _ _ _ _ _ hl=>by obtain⟨_,rfl⟩:=L2.fI hl;rfl), .of X G a15 l15 c15 k15 (λ_ _ _ _ _ _ _ hl=>by obtain⟨_,rfl⟩:=L2.fI hl;rfl), .of X G a16 l16 c16 k16 (λ_ _ _ _ _ _ _ hl=>by obtain⟨_,rfl⟩:=L2.fI hl;rfl), .of X G a17 l17 c17 k17 (λ_ _ _ _ _ _ _ hl=>by obtain⟨_,_,rfl⟩:=L2.jk hl;rfl), .of X G a18 l18 c18 k18 (λ_ _ _ _ _ _ _ hl=>by obtain⟨_,_,_,_,rfl⟩:=L2.EZ hl;rfl), .of X G a19 l19 c19 k19 (λ_ _ _ _ _ _ _ hl=>by obtain⟨_,_,_,rfl⟩:=L2.m9 hl;rfl), .of X G a20 l20 c20 k20 (λ_ _ _ _ _ _ _ hl=>by obtain⟨_,_,_,rfl⟩:=L2.m9 hl;rfl), .of X G a21 l21 c21 k21 (λ_ _ _ _ _ _ _ hl=>by obtain⟨_,_,_,rfl⟩:=L2.m9 hl;rfl), .of X G a22 l22 c22 k22 (λ_ _ _ _ _ _ _ hl=>by obtain⟨_,_,rfl⟩:=L2.jk hl;rfl), .of X G a23 l23 c23 k23 (λ_ _ _ _ _ _ _ hl=>by obtain⟨_,_,_,_,_,rfl⟩:=L2.W9 hl;rfl), .of X G a24 l24 c24 k24 (λ_ _ _ _ _ _ _ hl=>by obtain⟨_,_,_,_,rfl⟩:=L2.EZ hl;rfl), .of X G a25 l25 c25 k25 (λ_ _ _ _ _ _ _ hl=>by obtain⟨_,_,_,rfl⟩:=L2.m9 hl;rfl), .of X G a26 l26 c26 k26 (λ_ _ _ _ _ _ _ hl=>by obtain⟨_,_,rfl⟩:=L2.jk hl;rfl), .of X G a27 l27 c27 k27 (λ_ _ _ _ _ _ _ hl=>by obtain⟨_,rfl⟩:=L2.fI hl;rfl), .of X G a28 l28 c28 k28 (λ_ _ _ _ _ _ _ hl=>by obtain⟨_,_,rfl⟩:=L2.jk hl;rfl), .of X G a29 l29 c29 k29 (λ_ _ _ _ _ _ _ hl=>by obtain⟨_,_,rfl⟩:=L2.jk hl;rfl), .of X G a30 l30 c30 k30 (λ_ _ _ _ _ _ _ hl=>by obtain⟨_,_,_,rfl⟩:=L2.m9 hl;rfl), .of X G a31 l31 c31 k31 (λ_ _ _ _ _ _ _ hl=>by obtain⟨_,_,rfl⟩:=L2.jk hl;rfl), .of X G a32 l32 c32 k32 (λ_ _ _ _ _ _ _ hl=>by obtain⟨_,_,_,rfl⟩:=L2.m9 hl;rfl), .of X G a33 l33 c33 k33 (λ_ _ _ _ _ _ _ hl=>by obtain⟨_,_,_,rfl⟩:=L2.m9 hl;rfl), .of X G a34 l34 c34 k34 (λ_ _ _ _ _ _ _ hl=>by obtain⟨_,_,rfl⟩:=L2.jk hl;rfl), .of X G a35 l35 c35 k35 (λ_ _ _ _ _ _ _ hl=>by obtain⟨_,_,rfl⟩:=L2.jk hl;rfl), .of X G a36 l36 c36 k36 (λ_ _ _ _ _ _ _ hl=>by obtain⟨_,rfl⟩:=L2.fI hl;rfl), .of X G a37 l37 c37 k37 (λ_ _ _ _ _ _ _ hl=>by obtain⟨_,_,_,rfl⟩:=L2.m9 hl;rfl), .of X G a38 l38 c38 k38 (λ_ _ _ _ _ _ _ hl=>by obtain⟨_,rfl⟩:=L2.fI hl;rfl), .of X G a39 l39 c39 k39 (λ_ _ _ _ _ _ _ hl=>by obtain⟨_,_,rfl⟩:=L2.jk hl;rfl), .of X G So l40 c40 k40 (λ_ _ _ _ _ _ _ hl=>by obtain⟨_,rfl⟩:=L2.fI hl;rfl),⟨⟨pgC,LM,poC,saC⟩,nR⟩,PySem.W.mg_of X G gC,i0,_,E0,⟨mkC,m0,f0,kpC⟩,e0, .of m1 f1 ml1 mc1 mk1 (λ_ _ _ _ _ _ _ hl=>by obtain⟨_,rfl⟩:=L2.fI hl;rfl), .of m2 f2 ml2 mc2 mk2 (λ_ _ _ _ _ _ _ hl=>by obtain⟨_,rfl⟩:=L2.fI hl;rfl), .of m3 f3 ml3 mc3 mk3 (λ_ _ _ _ _ _ _ hl=>by obtain⟨_,rfl⟩:=L2.fI hl;rfl), .of m4 f4 ml4 mc4 mk4 (λ_ _ _ _ _ _ _ hl=>by obtain⟨_,_,_,rfl⟩:=L2.m9 hl;rfl), .of m5 f5 ml5 mc5 mk5 (λ_ _ _ _ _ _ _ hl=>by obtain⟨_,_,_,rfl⟩:=L2.m9 hl;rfl),⟨ts0,PySem.W.mg_of X G Tw⟩,⟨tk1,PySem.W.mg_of X G cc1⟩,⟨tk2,PySem.W.mg_of X G cc2⟩⟩
 exact⟨_,λs v=> .of_eq rfl,λbase _ _=>(((Mp (P:=l.prog) (w:=w) (base:=base) T).mono (by decide)).imp (L2.Mb (Z:=Z)))⟩
theorem walk{l:PySem.W.OpenLaw}{q:Program}{loose:List Str}{XP:(Str->Option Value)->Heap->Prop}{YP:World->Heap->Prop}{d:DefRec}{K:Params->PySem.W.Frag}(hn:l.most=some 63)(C3:d.params.defaults= [])
  (hY:∀(w:World)(h:Heap),YP w h->(K w.params).In h)
  (F:∀(w:World)(mg:Str->Option Value)(fa:Addr)(h:Heap),(K w.params).In h->h.Ns mainGlobals mg->mg d.name=some (.ref fa)->
   ∃fd:FuncData,(∀(s:Shared)(u:Value),BindsTo s fd ⟨[u],[]⟩ [("_law_script",u)])/\∀base:Heap,(K w.params).In base->base.Ns mainGlobals mg->FnOk l.prog w (K w.params) mg base bB 40 fa fd ["_law_script"] (rR (K w.params))):
  PySem.W.WalkO q loose XP YP l.row.toRowW d [] (λf vs=>PySem.call f vs):=L2.R0 40 (by decide) hn C3 hY F
end lg
def PySem.W.Fast.tw17569711988956175012:Nat:=0
def PySem.W.Fast.tw12739658697039803253:Nat:=0
def PySem.W.Fast.tw17967551987319337348:Nat:=0
def PySem.W.Fast.tw3403412343770668455:Nat:=0
def PySem.W.Fast.tw13053378287390546323:Nat:=0
def PySem.W.Fast.tw6271479565321623647:Nat:=0
def PySem.W.Fast.tw12567535191166661246:Nat:=0
def PySem.W.Fast.tw132503904707799083:Nat:=0
def PySem.W.Fast.tw5788098920460541281:Nat:=0
def PySem.W.Fast.tw11001807258299638510:Nat:=0
def PySem.W.Fast.tw5814087664513701098:Nat:=0
def PySem.W.Fast.tw1526452533088502208:Nat:=0
def PySem.W.Fast.tw6111788059819870888:Nat:=0
def PySem.W.Fast.tw2245215669179646035:Nat:=0
def PySem.W.Fast.tw14012314015243464106:Nat:=0
def PySem.W.Fast.tw15635739556434536543:Nat:=0
def PySem.W.Fast.tw1895633928871866661:Nat:=0
def PySem.W.Fast.tw14404106514165228942:Nat:=0
def PySem.W.Fast.tw4340480319282450542:Nat:=0
def PySem.W.Fast.tw5467146805553493189:Nat:=0
def PySem.W.Fast.tw4310421879307064687:Nat:=0
def PySem.W.Fast.tw199056109996524683:Nat:=0
def PySem.W.Fast.tw8640033428972032315:Nat:=0
def PySem.W.Fast.tw10046473943012089499:Nat:=0
def PySem.W.Fast.tw17362298136239326997:Nat:=0
def PySem.W.Fast.tw5559377323470981869:Nat:=0
def PySem.W.Fast.tw6898244528726684061:Nat:=0
def PySem.W.Fast.tw16649066964232041812:Nat:=0
def PySem.W.Fast.tw14886503349930945970:Nat:=0
def PySem.W.Fast.tw9793344940379863763:Nat:=0
def PySem.W.Fast.tw3354181232622431377:Nat:=0
def PySem.W.Fast.tw14452824082349210733:Nat:=0
def PySem.W.Fast.tw8526198481998555998:Nat:=0
def PySem.W.Fast.tw12759351953375759389:Nat:=0
def PySem.W.Fast.tw18097394428142817240:Nat:=0
def PySem.W.Fast.tw4494243532217399370:Nat:=0
def PySem.W.Fast.tw3619191175284756741:Nat:=0
def PySem.W.Fast.tw11468884780309141790:Nat:=0
def PySem.W.Fast.tw2130819077741370770:Nat:=0
def PySem.W.Fast.tw17994393350591250447:Nat:=0
def PySem.W.Fast.tw11745875395888611076:Nat:=0
def PySem.W.Fast.tw9992680258418463314:Nat:=0
def PySem.W.Fast.tw2232288986671309881:Nat:=0
def PySem.W.Fast.tw1537642920667535857:Nat:=0
def PySem.W.Fast.tw874317588649484513:Nat:=0
def PySem.W.Fast.tw11047626717773877654:Nat:=0
def PySem.W.Fast.tw8223266014711850576:Nat:=0
def PySem.W.Fast.tw12393218934278368340:Nat:=0
def PySem.W.Fast.tw13054653019966757174:Nat:=0
def PySem.W.Fast.tw16303823722606406620:Nat:=0
def PySem.W.Fast.tw16863677933718972000:Nat:=0
def PySem.W.Fast.tw16298063889927953788:Nat:=0
def PySem.W.Fast.tw3008147226395371443:Nat:=0
def PySem.W.Fast.tw8264762772459372520:Nat:=0
def PySem.W.Fast.tw16297730248685016300:Nat:=0
def PySem.W.Fast.tw10617945959466386138:Nat:=0
def PySem.W.Fast.tw15557073358943272171:Nat:=0
def PySem.W.Fast.tw17857083160671458981:Nat:=0
def PySem.W.Fast.tw3074059819115359097:Nat:=0
def PySem.W.Fast.tw2641470386502953418:Nat:=0
def PySem.W.Fast.tw18376865958346414240:Nat:=0
def PySem.W.Fast.tw8513328701713971142:Nat:=0
def PySem.W.Fast.tw1260870889198274340:Nat:=0
def PySem.W.Fast.tw16009333742454554057:Nat:=0
def PySem.W.Fast.tw15117251467712547891:Nat:=0
def PySem.W.Fast.tw15262009770371487467:Nat:=0
def PySem.W.Fast.tw1622308542363714109:Nat:=0
def PySem.W.Fast.tw11485723214355287182:Nat:=0
def PySem.W.Fast.tw3324650159808609936:Nat:=0
def PySem.W.Fast.tw13791872023883510826:Nat:=0
def PySem.W.Fast.tw4846224460197313273:Nat:=0
def PySem.W.Fast.tw1291176615121103878:Nat:=0
def PySem.W.Fast.tw1561053452943731884:Nat:=0
def PySem.W.Fast.tw18346237484459067601:Nat:=0
def PySem.W.Fast.tw13510919725564537443:Nat:=0
def PySem.W.Fast.tw7332335362509590252:Nat:=0
def PySem.W.Fast.tw4828593177634647763:Nat:=0
def PySem.W.Fast.tw11730944859485369618:Nat:=0
def PySem.W.Fast.tw3105897470653849578:Nat:=0
def PySem.W.Fast.tw17137403694975678182:Nat:=0
def PySem.W.Fast.tw16945264819590339353:Nat:=0
def PySem.W.Fast.tw8495785091526908838:Nat:=0
def PySem.W.Fast.tw374906070413382332:Nat:=0
def PySem.W.Fast.tw15413177713449084912:Nat:=0
def PySem.W.Fast.tw18365287394045277137:Nat:=0
def PySem.W.Fast.tw372585677100547448:Nat:=0
def PySem.W.Fast.tw2004945290046000324:Nat:=0
def PySem.W.Fast.tw13118782603257535417:Nat:=0
def PySem.W.Fast.tw12355329111379501097:Nat:=0
def PySem.W.Fast.tw1585719000913222463:Nat:=0
def PySem.W.Fast.tw3711897559507889028:Nat:=0
def PySem.W.Fast.tw16188107050896694749:Nat:=0
def PySem.W.Fast.tw10724450351777314285:Nat:=0
def PySem.W.Fast.tw10189376101648942583:Nat:=0
def PySem.W.Fast.tw8313897010617742969:Nat:=0
def PySem.W.Fast.tw17977900509346446469:Nat:=0
def PySem.W.Fast.tw5510683311700173308:Nat:=0
def PySem.W.Fast.tw5829084972849114128:Nat:=0
def PySem.W.Fast.tw3899185659867153898:Nat:=0
def PySem.W.Fast.tw12351089776688793275:Nat:=0
def PySem.W.Fast.tw1270291697633966456:Nat:=0
def PySem.W.Fast.tw17586496867663591560:Nat:=0
def PySem.W.Fast.tw7073721553595106347:Nat:=0
def PySem.W.Fast.tw8884005307081917982:Nat:=0
def PySem.W.Fast.tw14369078935826231015:Nat:=0
def PySem.W.Fast.tw9776166306319320836:Nat:=0
def PySem.W.Fast.tw17109440661207465828:Nat:=0
def PySem.W.Fast.tw3864358338524176985:Nat:=0
def PySem.W.Fast.tw10060890331699425522:Nat:=0
def PySem.W.Fast.tw8599682408246459276:Nat:=0
def PySem.W.Fast.tw8300814150984739070:Nat:=0
def PySem.W.Fast.tw16260983202300425679:Nat:=0
def PySem.W.Fast.tw14196700612861580663:Nat:=0
def PySem.W.Fast.tw4736423611665275114:Nat:=0
def PySem.W.Fast.tw10075471568136802535:Nat:=0
def PySem.W.Fast.tw3332966762372706713:Nat:=0
def PySem.W.Fast.tw13436577143580760240:Nat:=0
def PySem.W.Fast.tw3883709332596757673:Nat:=0
def PySem.W.Fast.tw2628843405648992627:Nat:=0
def PySem.W.Fast.tw10015851010225104577:Nat:=0
def PySem.W.Fast.tw9232632884873814983:Nat:=0
def PySem.W.Fast.tw6934676048918073216:Nat:=0
def PySem.W.Fast.tw2167868663037945620:Nat:=0
def PySem.W.Fast.tw1205723290912329769:Nat:=0
def PySem.W.Fast.tw10475354935626192056:Nat:=0
def PySem.W.Fast.tw12279889639591653204:Nat:=0
def PySem.W.Fast.tw17920212857532558877:Nat:=0
def PySem.W.Fast.tw960426103339424570:Nat:=0
def PySem.W.Fast.tw5117155773719422517:Nat:=0
def PySem.W.Fast.tw3725013631062514772:Nat:=0
def PySem.W.Fast.tw2385651733563043330:Nat:=0
def PySem.W.Fast.tw1695731691025094330:Nat:=0
def PySem.W.Fast.tw6944795661388457396:Nat:=0
def PySem.W.Fast.tw9637993241069386823:Nat:=0
def PySem.W.Fast.tw7381243576866021978:Nat:=0
def PySem.W.Fast.tw1514725586725092943:Nat:=0
def PySem.W.Fast.tw11285183046892611478:Nat:=0
def PySem.W.Fast.tw14027332040664721819:Nat:=0
def PySem.W.Fast.tw10013928273212355005:Nat:=0
def PySem.W.Fast.tw5397022525831201705:Nat:=0
def PySem.W.Fast.tw14168274352058471356:Nat:=0
def PySem.W.Fast.tw7838476772432201690:Nat:=0
def PySem.W.Fast.tw9007976295493839910:Nat:=0
def PySem.W.Fast.tw16757489956002320490:Nat:=0
def PySem.W.Fast.tw932019900722658019:Nat:=0
def PySem.W.Fast.tw7036024590741167030:Nat:=0
def PySem.W.Fast.tw1018894689487608425:Nat:=0
def PySem.W.Fast.tw15021187287000744781:Nat:=0
def PySem.W.Fast.tw13280536994551307726:Nat:=0
def PySem.W.Fast.tw8648376638369909172:Nat:=0
def PySem.W.Fast.tw8302928730574613206:Nat:=0
def PySem.W.Fast.tw608749141599120918:Nat:=0
def PySem.W.Fast.tw16903611744973711658:Nat:=0
def PySem.W.Fast.tw2893913128485132804:Nat:=0
def PySem.W.Fast.tw17848473479887984329:Nat:=0
def PySem.W.Fast.tw12999850741988428490:Nat:=0
def PySem.W.Fast.tw17153565821705473692:Nat:=0
def PySem.W.Fast.tw4086967894026898521:Nat:=0
def PySem.W.Fast.tw13048070016350197930:Nat:=0
def PySem.W.Fast.tw8560360133299369292:Nat:=0
def PySem.W.Fast.tw6287006324824990948:Nat:=0
def PySem.W.Fast.tw16325305505588597393:Nat:=0
def PySem.W.Fast.tw11642313942399515379:Nat:=0
def PySem.W.Fast.tw17037688039745164428:Nat:=0
def PySem.W.Fast.tw2980427515953870738:Nat:=0
def PySem.W.Fast.tw4881982342569052620:Nat:=0
def PySem.W.Fast.tw6864878300355983773:Nat:=0
def PySem.W.Fast.tw16379948641976828162:Nat:=0
def PySem.W.Fast.tw2446028875409536897:Nat:=0
def PySem.W.Fast.tw11732123173860614449:Nat:=0
def PySem.W.Fast.tw4852536639891049273:Nat:=0
def PySem.W.Fast.tw2863332371929575265:Nat:=0
def PySem.W.Fast.tw1336542616943796476:Nat:=0
def PySem.W.Fast.tw17772185530922674458:Nat:=0
def PySem.W.Fast.tw14118729436049355432:Nat:=0
def PySem.W.Fast.tw4205585031401983067:Nat:=0
def PySem.W.Fast.tw6481223692124450532:Nat:=0
def PySem.W.Fast.tw9282831183648867375:Nat:=0
def PySem.W.Fast.tw8024353515149451947:Nat:=0
def PySem.W.Fast.tw904813295750602948:Nat:=0
def PySem.W.Fast.tw13921621172029191221:Nat:=0
def PySem.W.Fast.tw11714911871824278917:Nat:=0
def PySem.W.Fast.tw14413370359059230245:Nat:=0
def PySem.W.Fast.tw1668642110786954051:Nat:=0
def PySem.W.Fast.tw5825324694730243498:Nat:=0
def PySem.W.Fast.tw5494575218777055354:Nat:=0
def PySem.W.Fast.tw7935763056652911162:Nat:=0
def PySem.W.Fast.tw2782657940984748026:Nat:=0
def PySem.W.Fast.tw88410557226330958:Nat:=0
def PySem.W.Fast.tw2851639417644592038:Nat:=0
def PySem.W.Fast.tw7534733473522005778:Nat:=0
def PySem.W.Fast.tw6673653938649443229:Nat:=0
def PySem.W.Fast.tw500096630652619711:Nat:=0
def PySem.W.Fast.tw15431457987942650477:Nat:=0
def PySem.W.Fast.tw4303983641718076624:Nat:=0
def PySem.W.Fast.tw5836251117678234893:Nat:=0
def PySem.W.Fast.tw6641257032066310226:Nat:=0
def PySem.W.Fast.tw17717533039898676375:Nat:=0
def PySem.W.Fast.tw4724604057023979450:Nat:=0
def PySem.W.Fast.tw14798616404720667636:Nat:=0
def PySem.W.Fast.tw1894575959581127190:Nat:=0
def PySem.W.Fast.tw4059057226547052175:Nat:=0
def PySem.W.Fast.tw2339630614290295863:Nat:=0
def PySem.W.Fast.tw809753735281120192:Nat:=0
def PySem.W.Fast.tw5336418848787360496:Nat:=0
def PySem.W.Fast.tw4768799758216520862:Nat:=0
def PySem.W.Fast.tw2073722677549509619:Nat:=0
def PySem.W.Fast.tw3065080391770481219:Nat:=0
def PySem.W.Fast.tw6707740690934308963:Nat:=0
def PySem.W.Fast.tw8778276341188648199:Nat:=0
def PySem.W.Fast.tw17076081661625744281:Nat:=0
def PySem.W.Fast.tw6228150826600803423:Nat:=0
def PySem.W.Fast.tw10904371372831365276:Nat:=0
def PySem.W.Fast.tw6772271507917269476:Nat:=0
def PySem.W.Fast.tw16947398913826412729:Nat:=0
def PySem.W.Fast.tw8089766004271157814:Nat:=0
def PySem.W.Fast.tw2109548882894526660:Nat:=0
def PySem.W.Fast.tw12646777372299237378:Nat:=0
def PySem.W.Fast.tw7667401637165661135:Nat:=0
def PySem.W.Fast.tw5597983675844069533:Nat:=0
def PySem.W.Fast.tw13236274764998652265:Nat:=0
def PySem.W.Fast.tw4472963431454351893:Nat:=0
def PySem.W.Fast.tw7346477625390710707:Nat:=0
def PySem.W.Fast.tw15069540608476390576:Nat:=0
def PySem.W.Fast.tw428400417549582814:Nat:=0
def PySem.W.Fast.tw7196983904648120029:Nat:=0
def PySem.W.Fast.tw6199453770468389163:Nat:=0
def PySem.W.Fast.tw18436338839829159529:Nat:=0
def PySem.W.Fast.tw6809051395288187793:Nat:=0
def PySem.W.Fast.tw872919555439063497:Nat:=0
def PySem.W.Fast.tw11624169395647625545:Nat:=0
def PySem.W.Fast.tw13380532156136056291:Nat:=0
def PySem.W.Fast.tw2219202296156902920:Nat:=0
def PySem.W.Fast.tw12606357571198636657:Nat:=0
def PySem.W.Fast.tw1172214267538455960:Nat:=0
def PySem.W.Fast.tw17037457852697369840:Nat:=0
def PySem.W.Fast.tw9601985402766126615:Nat:=0
def PySem.W.Fast.tw10744661175519014628:Nat:=0
def PySem.W.Fast.tw1120290310548702912:Nat:=0
def PySem.W.Fast.tw6649357491968379840:Nat:=0
def PySem.W.Fast.tw450756213610732231:Nat:=0
def PySem.W.Fast.tw11401811019284406157:Nat:=0
def PySem.W.Fast.tw7620811157893982302:Nat:=0
def PySem.W.Fast.tw13211551629716376261:Nat:=0
def PySem.W.Fast.tw6337420700072759888:Nat:=0
def PySem.W.Fast.tw9914862287511332635:Nat:=0
def PySem.W.Fast.tw8116914267629315748:Nat:=0
def PySem.W.Fast.tw9901703657065646549:Nat:=0
open PySem PySem.W PyProof.Rows
set_option maxRecDepth 100000 in
set_option maxHeartbeats 0 in
theorem PySem.Challenge.cw_mapdye_k67_whole_wheels_and_search_holds : PySem.Challenge.rw_mapdye_k67_whole_wheels_and_search.Holds := by
 w_on;o_law;k_head;(case hw=>w_witness2)
 k_fill
 refine lg.walk (l:=PySem.Challenge.rw_mapdye_k67_whole_wheels_and_search) rfl rfl (λw h Y=>PySem.W.kIn_of Y) ?F
 case F=>
  intro w mg fa h KX G zV
  refine' lg.all_mk KX G zV ?_ ?_ ?_ ?_ ?_ ?_ ?_ ?_ ?_ ?_ ?_ ?_ ?_ ?_ ?_ ?_ ?_ ?_ ?_ ?_ ?_ ?_ ?_ ?_ ?_ ?_ ?_ ?_ ?_ ?_ ?_ ?_ ?_ ?_ ?_ ?_ ?_ ?_ ?_ ?_ ?_ ?_ ?_ ?_ ?_ ?_ ?_ ?_ ?_ ?_ ?_ ?_ ?_ ?_ ?_ ?_ ?_ ?_ ?_ ?_ ?_ ?_ ?_ ?_ ?_ ?_ ?_ ?_ ?_ ?_ ?_ ?_ ?_ ?_ ?_ ?_ ?_ ?_ ?_ ?_ ?_ ?_ ?_ ?_ ?_ ?_ ?_ ?_ ?_ ?_ ?_ ?_ ?_ ?_ ?_ ?_ ?_ ?_ ?_ ?_ ?_ ?_ ?_ ?_ ?_ ?_ ?_ ?_ ?_ ?_ ?_ ?_ ?_ ?_ ?_ ?_ ?_ ?_ ?_ ?_ ?_ ?_ ?_ ?_ ?_ ?_ ?_ ?_ ?_ ?_ ?_ ?_ ?_ ?_ ?_ ?_ ?_ ?_ ?_ ?_ ?_ ?_ ?_ ?_ ?_ ?_ ?_ ?_ ?_ ?_ ?_ ?_ ?_ ?_ ?_ ?_ ?_ ?_ ?_ ?_ ?_ ?_ ?_ ?_ ?_ ?_ ?_ ?_ ?_ ?_ ?_ ?_ ?_ ?_ ?_ ?_ ?_ ?_ ?_ ?_ ?_ ?_ ?_ ?_ ?_ ?_ ?_ ?_ ?_ ?_ ?_ ?_ ?_ ?_ ?_ ?_ ?_ ?_ ?_ ?_ ?_ ?_ ?_ ?_ ?_ ?_ ?_ ?_ ?_ ?_ ?_ ?_ ?_ ?_ ?_ ?_ ?_ ?_ ?_ ?_ ?_
  all_goals (try (show _=_;k_is))

