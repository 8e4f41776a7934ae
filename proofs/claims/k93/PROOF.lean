import PyProof.Rows.All
import Wide.All
import OpenK.AllK
import Wide.FinOn
import Lean
import PyProof.EqAt
import PyProof.EqKinds
import PyProof.TupleCall
import PyProof.RaisesMany
import KE.KSortTup
import PyProof.NeKinds
import PyProof.SetKind
import PyProof.SetRoads
import PyProof.SetNew
import PyProof.WalksS
import PyProof.CollectWalk
import PyProof.TupleKey
import PyProof.IsRules
import PyProof.InstEq
import KE.KRevIter
import PyProof.FitsBits
import PyProof.P3Eq
import PyProof.ListRange
import PyProof.MeetsSeq
import PyProof.DictRoadsH
import PyProof.DictTruth
import PyProof.MinMaxWalk
import PySem.Challenge.RW_mapdye_k93_whole_three_dyes_counted
theorem ag{g:Prop}(h:∀G:Prop,(g->G)->G):g:=h g id
set_option hygiene false in
local macro_rules|`(tactic|rfl')=>`(tactic|refine ag fun G0 k0=>?_)
set_option hygiene false in
local macro_rules|`(tactic|ac_rfl)=>`(tactic|refine k0 ?_)
set_option Elab.async false
set_option linter.all false
set_option maxRecDepth 100000
abbrev aV:= @List.getD_eq_getElem?_getD
abbrev aG:= @List.length_map
abbrev bO:= @List.getElem?_eq_getElem
abbrev bP:= @List.mem_cons_of_mem
abbrev dE:= @List.getElem?_eq_some_iff
abbrev b6:= @List.mem_cons_self
abbrev cx:= @List.length_append
abbrev bC:= @Nat.le_refl
abbrev cm:= @List.mem_cons
abbrev fN:= @List.mem_append_right
abbrev cA:= @List.getElem?_map
abbrev cK:= @Bool.false_ne_true
abbrev cw:= @List.length_cons
abbrev cL:= @List.size_toArray
abbrev fi:= @List.getElem?_eq_none
abbrev e9:= @List.mem_of_getElem?
abbrev gk:= @List.getElem?_append_left
abbrev b8:= @List.mem_map
abbrev hU:= @List.getElem?_append_right
abbrev dB:= @List.length_set
abbrev cT:= @List.mem_range
abbrev eD:= @List.length_take
abbrev dO:= @List.map_append
abbrev eE:= @List.nodup_cons
abbrev cM:= @Nat.zero_le
abbrev iH:= @List.getElem?_set_self
abbrev dD:= @Nat.ne_of_lt
abbrev fK:= @List.mem_append
abbrev eF:= @List.map_map
abbrev gK:= @Nat.lt_of_lt_of_le
abbrev gF:= @List.nodup_append
abbrev hV:= @Bool.false_eq_true
abbrev gG:= @List.filter_cons
abbrev jv:= @List.getElem?_set_ne
abbrev fz:= @Nat.lt_irrefl
abbrev hZ:= @List.getElem?_set
abbrev gL:= @Nat.le_of_not_lt
abbrev jP:= @List.mem_iff_getElem
abbrev kL:= @Array.getElem?_toList
abbrev ia:= @List.not_mem_nil
abbrev iI:= @List.length_range
abbrev jw:= @List.mem_singleton
abbrev kM:= @List.mem_append_left
abbrev ib:= @List.mem_filter
abbrev nK:= @List.getElem?_replicate
abbrev ic:= @List.nodup_nil
abbrev qT:= @List.getElem?_take_of_lt
abbrev sY:= @Array.getD_eq_getD_getElem?
abbrev nM:= @Array.length_toList
abbrev iJ:= @List.map_cons
abbrev kN:= @List.length_drop
abbrev kO:= @List.all_eq_true
abbrev lZ:= @List.pairwise_map
abbrev kP:= @List.append_nil
abbrev ma:= @Bool.and_eq_true
abbrev oK:= @List.replicate_succ
abbrev oM:= @List.getElem?_range
abbrev nN:= @List.flatten_cons
abbrev nO:= @List.flatMap_cons
abbrev jx:= @Nat.le_trans
abbrev qU:= @List.getD_cons_succ
abbrev wc:= @List.idxOf_lt_length_iff
abbrev wd:= @List.set_eq_of_length_le
abbrev we:= @List.getElem?_cons_succ
abbrev sZ:= @List.getElem?_of_mem
abbrev oN:= @List.mem_flatMap
abbrev kQ:= @Nat.sub_self
abbrev yB:= @List.perm_ext_iff_of_nodup
abbrev yC:= @Array.getElem?_eq_getElem
abbrev wg:= @List.length_replicate
abbrev wj:= @List.length_singleton
abbrev qV:= @List.lookup_cons
abbrev qW:= @Nat.mod_eq_of_lt
abbrev td:= @List.append_assoc
abbrev qX:= @List.nil_append
abbrev wk:= @List.length_reverse
abbrev yD:= @List.length_pos_of_mem
abbrev BG:= @Array.getElem?_eq_some_iff
abbrev yE:= @List.take_append_drop
abbrev BH:= @List.drop_eq_getElem_cons
abbrev wo:= @List.ext_getElem?
abbrev qY:= @List.map_drop
abbrev BI:= @List.length_eq_zero_iff
abbrev wq:= @List.getElem_mem
abbrev wu:= @List.mem_flatten
abbrev BJ:= @List.drop_eq_nil_of_le
abbrev qZ:= @Nat.le_of_lt
abbrev BK:= @Nat.le_of_ble_eq_true
abbrev tj:= @List.map_take
abbrev yF:= @Bool.eq_false_iff
abbrev rb:= @Nat.le_succ
abbrev yG:= @List.take_length
abbrev BL:= @List.getElem?_drop
abbrev zq93:= @List.mem_filterMap
abbrev EK:= @List.take_of_length_le
abbrev BM:= @List.getElem_take
abbrev wx:= @List.map_set
abbrev tm:= @Nat.mod_lt
abbrev BN:= @List.getElem_map
abbrev BO:= @List.flatMap_nil
abbrev r6:= @List.all_cons
abbrev DJ:= @Array.perm_iff_toList_perm
abbrev DK:= @List.nodup_iff_pairwise_ne
abbrev zO:= @List.flatten_append
abbrev zP:= @List.length_pos_iff
abbrev DL:= @List.pairwise_iff_getElem
abbrev r8:= @Nat.zero_add
abbrev zQ:= @List.getElem_idxOf
abbrev zS:= @Option.toList_some
abbrev v9:= @Bool.false_and
abbrev wa:= @Bool.xor_false
abbrev wb:= @List.take_succ
namespace L2
open PySem PySem.Spec PyProof.Rows
abbrev Key:=Sum Int Str
def HV:Key->Value->Bool
 | .inl k,v=>Value.isInt k v
 | .inr x,v=>Value.isStrOf x v
def VD(w:World):Key->Int
 | .inl k=>hashInt k
 | .inr x=>hashStr w x
theorem cI:∀{k:Key}{v:Value},HV k v=true->(∃i t,k=Sum.inl i/\v=Value.int i t)\/(∃x t,k=Sum.inr x/\v=Value.str x t)
 | .inl i,v,h=>by
  obtain⟨t,e⟩:=Value.isInt_shape (k:=i) (v:=v) h;exact .inl ⟨i,t,rfl,e⟩
 | .inr x,v,h=>by
  obtain⟨t,e⟩:=Value.isStrOf_shape (x:=x) (v:=v) h;exact .inr ⟨x,t,rfl,e⟩
theorem K9(a b:Int):decide ((Sum.inl a:Key)=Sum.inl b)=(a==b):=by
 by_cases e:a=b
 ·subst e;simp
 ·have h:¬(Sum.inl a:Key)=Sum.inl b:=λq=>e (Sum.inl.inj q)
  rw[decide_eq_false h];exact(beq_eq_false_iff_ne.mpr e).symm
theorem Ld(a b:Str):decide ((Sum.inr a:Key)=Sum.inr b)=decide (a=b):=by
 by_cases e:a=b
 ·subst e;simp
 ·have h:¬(Sum.inr a:Key)=Sum.inr b:=λq=>e (Sum.inr.inj q)
  rw[decide_eq_false h,decide_eq_false e]
theorem La(a:Int)(b:Str):decide ((Sum.inl a:Key)=Sum.inr b)=false:=decide_eq_false (λq=>nomatch q)
theorem Lc(a:Str)(b:Int):decide ((Sum.inr a:Key)=Sum.inl b)=false:=decide_eq_false (λq=>nomatch q)
def vk(prog:Program)(w:World):PySem.KeyKind prog w Key where
 is:=HV
 hash:=VD w
 inj:=λv a b ha hb=>by
  rcases cI ha with ⟨i,t,rfl,rfl⟩ | ⟨x,t,rfl,rfl⟩
  ·rcases cI hb with ⟨j,u,rfl,e⟩ | ⟨y,u,rfl,e⟩
   ·injection e with e1 _;rw[e1]
   ·exact nomatch e
  ·rcases cI hb with ⟨j,u,rfl,e⟩ | ⟨y,u,rfl,e⟩
   ·exact nomatch e
   ·injection e with e1 _;rw[e1]
 byValue:=λk v h=>by
  rcases cI h with ⟨i,t,rfl,rfl⟩ | ⟨x,t,rfl,rfl⟩<;>rfl
 pyHash:=λhv h=>by
  rcases cI hv with ⟨i,t,rfl,rfl⟩ | ⟨x,t,rfl,rfl⟩
  ·exact wpAny_pyHash_int h
  ·exact wpAny_pyHash_str h
 eqBool:=λhu hv h=>by
  rcases cI hu with ⟨i,t,rfl,rfl⟩ | ⟨x,t,rfl,rfl⟩
  ·rcases cI hv with ⟨j,u,rfl,rfl⟩ | ⟨y,u,rfl,rfl⟩
   ·rw[K9] at h;exact wpAny_eqBool_int h
   ·rw[La] at h;exact SeqAt.EqAt.int_str i t y u _ _ _ _ h
  ·rcases cI hv with ⟨j,u,rfl,rfl⟩ | ⟨y,u,rfl,rfl⟩
   ·rw[Lc] at h;exact SeqAt.EqAt.str_int x t j u _ _ _ _ h
   ·rw[Ld] at h;exact wpAny_eqBool_str h
 «strs»:=λk x t v h=>by
  rcases cI h with ⟨i,u,rfl,e⟩ | ⟨y,u,rfl,e⟩
  ·exact nomatch e
  ·injection e with e1 _
   subst e1;cases v<;>rfl
inductive V where
 |bb|bl (b:Bool) |int (i:Int) |str (x:Str) |ES (b:Array UInt8) |B8 (b:UInt64) |ref (a:Addr) |ty (n:String)
 deriving DecidableEq
def RelV:V->Value->Prop
 | .bb,u=>u=Value.none
 | .bl b,u=>u=Value.bool b
 | .int i,u=>∃t,u=Value.int i t
 | .str x,u=>∃t,u=Value.str x t
 | .ES b,u=>∃t,u=Value.bytes b t
 | .B8 b,u=>∃t,u=Value.float b t
 | .ref a,u=>u=Value.ref a
 | .ty n,u=>u=Value.type n
abbrev Vals:List V->List Value->Prop:=Paired RelV
theorem Vals.length{xs:List V}{us:List Value}(r:Vals xs us):xs.length=us.length:=Paired.length r
theorem Vals.get:∀{xs:List V}{us:List Value}{i:Nat}{x:V},Vals xs us->xs[i]? =some x->∃u,us[i]? =some u/\RelV x u
 |_,_,_,_, .nil,e=>by simp at e
 |_,_,0,_, .cons r _,e=>by simp at e;subst e;exact⟨_,rfl,r⟩
 |_,_,i+1,x, .cons _ t,e=>by
  obtain⟨u,h1,h2⟩:=Vals.get (i:=i) (x:=x) t (by simpa using e)
  exact⟨u,by simpa using h1,h2⟩
theorem Vals.set{x:V}{u:Value}(r:RelV x u):∀{xs:List V}{us:List Value}(i:Nat),Vals xs us->Vals (xs.set i x) (us.set i u)
 |_,_,_, .nil=> .nil
 |_,_,0, .cons _ t=> .cons r t
 |_,_,i+1, .cons q t=> .cons q (Vals.set r i t)
theorem Vals.append:∀{xs ys:List V}{us ws:List Value},Vals xs us->Vals ys ws->Vals (xs++ys) (us++ws)
 |_,_,_,_, .nil,s=>s
 |_,_,_,_, .cons r t,s=> .cons r (Vals.append t s)
theorem Vals.take:∀{xs:List V}{us:List Value}(n:Nat),Vals xs us->Vals (xs.take n) (us.take n)
 |_,_,0,_=> .nil
 |_,_,_+1, .nil=> .nil
 |_,_,n+1, .cons r t=> .cons r (Vals.take n t)
theorem Vals.drop:∀{xs:List V}{us:List Value}(n:Nat),Vals xs us->Vals (xs.drop n) (us.drop n)
 |_,_,0,r=>r
 |_,_,_+1, .nil=> .nil
 |_,_,n+1, .cons _ t=>Vals.drop n t
def mw:Option V->Option Value->Prop
 |some v,some u=>RelV v u
 |none,none=>True
 |_,_=>False
def KV{κ:Type}:List (κ×V)->List (κ×Value)->Prop:=Paired λ(p:κ×V)(q:κ×Value)=>p.1=q.1/\RelV p.2 q.2
def kV:Key->V
 | .inl i=> .int i
 | .inr x=> .str x
inductive HO where
  |lst (xs:List V)
  |tup (xs:List V)
  |dK (eH:List (Key×V)) |dT (eH:List (List Key×V))
  |set (S:Int->Bool) (n:Nat)
  |ins (C dx:Addr) (fs:List (Str×V))
  |own (x:Addr)
  |xd (fs:List (Str×V))
  |met (f x:Addr)
  |rng (lo hi:Int)
  |oX (o:Obj) (u:HO)
  |Bz (ps:Array Value)
  |ext (φ:Heap->Prop)
abbrev Hp:=Addr->Option HO
def upd(H:Hp)(a:Addr)(o:HO):Hp:=λb=>if b=a then some o else H b
theorem av{H:Hp}{a:Addr}{o:HO}:upd H a o a=some o:=by unfold upd;rw[if_pos rfl]
theorem aw{H:Hp}{a b:Addr}{o:HO}(h:b≠a):upd H a o b=H b:=by unfold upd;rw[if_neg h]
theorem aR{H:Hp}{a b:Addr}{o:HO}(h:H a=some o)(h':H b=none):a≠b:=by
 intro e;subst e;rw[h] at h';cases h'
section
variable (P:Program) (w:World)
def cP(H:Hp)(h:Heap)(a:Addr):HO->Prop
 | .lst xs=>xs.length<=sizeLine/\∃(its:List Value)(n:Nat),Vals xs its/\h.get? a=some {cls:= .type "list",data:= .seq its.toArray n}
 | .tup xs=>xs.length<=sizeLine/\∃its:List Value,Vals xs its/\IsTup h a its.toArray
 | .dK eH=>eH.length<=sizeLine/\(a==sysModules)=false/\∃vs,KV eH vs/\h.DictOf (vk P w) a vs
 | .dT eH=>eH.length<=sizeLine/\(a==sysModules)=false/\∃xs:List (List Key×Addr×Value),
   Paired (λ(p:List Key×V)(q:List Key×Addr×Value)=>p.1=q.1/\H q.2.1=some (.tup (p.1.map kV))/\RelV p.2 q.2.2) eH xs/\
   ∃o es ep,h.get? a=some o/\o.ExactDict/\o.data= .dict es ep/\es.toList=xs.map (entryOfKey (tupleKind (vk P w)))/\(xs.map (·.1)).Nodup
 | .set S n=>h.SetOf (intKind P w) a S n
 | .ins C dx fs=>H dx=some (.own a)/\fs.length<=1000/\dx≠a/\h.get? a=some (PySem.W.instObj C dx)/\
   ∃mA,h.Ns1 dx mA/\(∀f,mw (fs.lookup f) (mA f))/\PySem.Within mA (fs.map (·.1))
 | .own _=>∃o,h.get? a=some o
 | .xd fs=>∃mA,h.Ns1 a mA/\∀f,mw (fs.lookup f) (mA f)
 | .rng lo hi=>∃t u v,h.get? a=some {cls:= .type "range",data:= .fields #[.int lo t, .int hi u, .int 1 v]}
 | .oX o u=>h.get? a=some o/\cP H h a u
 | .Bz ps=>h.get? a=some {cls:= .none,data:= .fields ps}
 | .met f x=>h.get? a=some (PySem.W.methodObj (.ref f) (.ref x))
 | .ext φ=>φ h/\(∃o,h.get? a=some o)/\∀h1 h2:Heap,φ h1->(∀o,h1.get? a=some o->h2.get? a=some o)->φ h2
def iK(H:Hp)(h:Heap):Prop:=∀a o,H a=some o->cP P w H h a o
end
section
variable {P:Program} {w:World} {H H':Hp} {h h':Heap} {a:Addr} {o:HO}
theorem cP.lt(x:cP P w H h a o):a<h.objs.size:=by
 cases o with
 |lst xs=>obtain⟨_,_,_,_,e⟩:=x;exact Heap.lt_size e
 |tup xs=>obtain⟨_,_,_,p⟩:=x;exact p.lt
 |dK eH=>obtain⟨_,_,_,_,o,_,_,e,_⟩:=x;exact Heap.lt_size e
 |dT eH=>obtain⟨_,_,_,_,o,_,_,e,_⟩:=x;exact Heap.lt_size e
 |set S n=>obtain⟨o,_,_,_,e,_⟩:=x;exact Heap.lt_size e
 |ins C dx fs=>obtain⟨_,_,_,e,_⟩:=x;exact Heap.lt_size e
 |own y=>obtain⟨_,e⟩:=x;exact Heap.lt_size e
 |xd fs=>obtain⟨_,⟨_,_,_,e,_⟩,_⟩:=x;exact Heap.lt_size e
 |rng lo hi=>obtain⟨_,_,_,e⟩:=x;exact Heap.lt_size e
 |oX ob u=>obtain⟨e,_⟩:=x;exact Heap.lt_size e
 |Bz ps=>exact Heap.lt_size (show h.get? a=some _ from x)
 |met f y=>exact Heap.lt_size (show h.get? a=some _ from x)
 |ext φ=>obtain⟨_,⟨_,e⟩,_⟩:=x;exact Heap.lt_size e
theorem Paired.NH{α β:Type}{F G:α->β->Prop}:∀{l₁:List α}{l₂:List β},Paired F l₁ l₂->(∀a b,F a b->G a b)->Paired G l₁ l₂
 |_,_, .nil,_=> .nil
 |_,_, .cons r t,f=> .cons (f _ _ r) (Paired.NH t f)
theorem cP.qP(x:cP P w H h a o)(k:∀b u,(b=a\/H b=some (.own a))->h.get? b=some u->h'.get? b=some u)
  (ho:∀b,H b=some (.own a)->H' b=some (.own a)) (ht:∀b xs,H b=some (.tup xs)->H' b=some (.tup xs)):cP P w H' h' a o:=by
 induction o with
 |lst xs=>obtain⟨z,its,n,r,e⟩:=x;exact⟨z,its,n,r,k _ _ (.inl rfl) e⟩
 |tup xs=>obtain⟨z,its,r,ob,e,c⟩:=x;exact⟨z,its,r,ob,k _ _ (.inl rfl) e,c⟩
 |dK eH=>obtain⟨z,y,vs,r,ob,es,ep,e,c⟩:=x;exact⟨z,y,vs,r,ob,es,ep,k _ _ (.inl rfl) e,c⟩
 |dT eH=>
  obtain⟨z,y,xs,r,ob,es,ep,e,c⟩:=x;exact⟨z,y,xs,Paired.NH r λp q z=>⟨z.1,ht _ _ z.2.1,z.2.2⟩,ob,es,ep,k _ _ (.inl rfl) e,c⟩
 |set S n=>obtain⟨ob,es,ep,t,e,c⟩:=x;exact⟨ob,es,ep,t,k _ _ (.inl rfl) e,c⟩
 |ins C dx fs=>
  rfl';obtain⟨d,z,ne,e,mA,⟨od,es,ep,e2,c⟩,r⟩:=x;ac_rfl;exact⟨ho _ d,z,ne,k _ _ (.inl rfl) e,mA,⟨od,es,ep,k _ _ (.inr d) e2,c⟩,r⟩
 |own y=>obtain⟨ob,e⟩:=x;exact⟨ob,k _ _ (.inl rfl) e⟩
 |xd fs=>obtain⟨mA,⟨od,es,ep,e,c⟩,r⟩:=x;exact⟨mA,⟨od,es,ep,k _ _ (.inl rfl) e,c⟩,r⟩
 |rng lo hi=>obtain⟨t,u,v,e⟩:=x;exact⟨t,u,v,k _ _ (.inl rfl) e⟩
 |oX ob u ih=>obtain⟨e,q⟩:=x;exact⟨k _ _ (.inl rfl) e,ih q⟩
 |Bz ps=>
  have e:h.get? a=some {cls:= .none,data:= .fields ps}:=x;show h'.get? a=some {cls:= .none,data:= .fields ps};exact k a _ (.inl rfl) e
 |met f y=>
  have e:h.get? a=some (PySem.W.methodObj (.ref f) (.ref y)):=x;show h'.get? a=some (PySem.W.methodObj (.ref f) (.ref y));exact k a _ (.inl rfl) e
 |ext φ=>obtain⟨p,⟨o,e⟩,st⟩:=x;exact⟨st _ _ p λo q=>k _ _ (.inl rfl) q,⟨o,k _ _ (.inl rfl) e⟩,st⟩
theorem iK.lt(x:iK P w H h)(e:H a=some o):a<h.objs.size:=(x a o e).lt
theorem iK.fresh(x:iK P w H h)(e:h.objs.size<=a):H a=none:=by
 cases q:H a with
 |none=>rfl
 |some u=>exact absurd (gK (x.lt q) e) (fz _)
theorem iK.kept(x:iK P w H h)(k:∀b u,h.get? b=some u->h'.get? b=some u):iK P w H h':=λa o e=>
 (x a o e).qP (λb u _ q=>k b u q) (λ_ q=>q) λ_ _ q=>q
theorem iK.laid(x:iK P w H h)(k:∀b u,h.get? b=some u->h'.get? b=some u)(hp:h.objs.size<=a)(new:cP P w (upd H a o) h' a o):iK P w (upd H a o) h':=λb u e=>by
 have hn:=x.fresh hp
 by_cases hb:b=a
 ·subst hb;rw[av] at e;cases e;exact new
 ·rw[aw hb] at e
  exact(x b u e).qP (λc v _ q=>k c v q) (λc q=>by rw[aw (aR q hn)];exact q) λc xs q=>by rw[aw (aR q hn)];exact q
end
def Rd(H:Hp)(a:Addr)(u:HO):Prop:=H a=some u\/∃o,H a=some (.oX o u)
theorem Rd.ok{P:Program}{w:World}{H:Hp}{h:Heap}{a:Addr}{u:HO}(r:Rd H a u)(x:iK P w H h):cP P w H h a u:=by
 rcases r with r| ⟨o,r⟩
 ·exact x a u r
 ·obtain⟨_,q⟩:=x a _ r
  exact q
def Kd:Option HO->Prop
 |some (.lst _)=>True
 |some (.dK _)=>True
 |some (.dT _)=>True
 |some (.set _ _)=>True
 |some (.ins _ _ _)=>True
 |some (.ext _)=>True
 |_=>False
section
variable {P:Program} {w:World} {H:Hp} {h h':Heap} {x e:Addr} {o':HO}
theorem iK.write(ok:iK P w H h)(mu:Kd (H x))(he:e=x\/H e=some (.own x))(k:∀b u,b≠e->h.get? b=some u->h'.get? b=some u)(Fi:∃u,h'.get? e=some u)
  (new:cP P w (upd H x o') h' x o'):iK P w (upd H x o') h':=λb u q=>by
 have NK:∀c y,H c=some (.own y)->c≠x:=λc y r z=>by subst z;rw[r] at mu;exact mu
 have VQ:∀c xs,H c=some (.tup xs)->c≠x:=λc xs r z=>by subst z;rw[r] at mu;exact mu
 by_cases hb:b=x
 ·subst hb;rw[av] at q;cases q;exact new
 ·rw[aw hb] at q
  by_cases Cf:b=e
  ·have q':H b=some (.own x):=by
    rcases he with z|z
    ·exact absurd (Cf.trans z) hb
    ·rw[Cf];exact z
   obtain⟨v,hv⟩:=Fi;rw[q] at q';cases q';exact⟨v,by rw[Cf];exact hv⟩
  ·refine(ok b u q).qP (λc v hc r=>k c v ?_ r) (λc r=>by rw[aw (NK c b r)];exact r) λc xs r=>by rw[aw (VQ c xs r)];exact r
   rcases hc with rfl|hc
   ·exact Cf
   ·rintro rfl
    rcases he with z|z
    ·exact NK c b hc z
    ·rw[hc] at z;cases z;exact hb rfl
end
structure Un (fs ex:List Addr) (H H':Hp) (h h':Heap):Prop where
 keep:∀b o,h.get? b=some o->H b=none->b∉fs->b∉ex->h'.get? b=some o
 slot:∀b o,h.get? b=some o->H b=none->b∈fs->b∉ex->∃sl,h'.get? b=some {o with slots:=sl}
 free:∀b o,h.get? b=some o->H b=none->b∉ex->H' b=none
 there:∀b o,h.get? b=some o->b∉ex->∃o',h'.get? b=some o'
 tups:∀b xs,H b=some (.tup xs)->H' b=some (.tup xs)
 frzs:∀b o u,H b=some (.oX o u)->H' b=some (.oX o u)
 tbls:∀b ps,H b=some (.Bz ps)->∃more,H' b=some (.Bz (ps++more))
section
variable {fs Pb ex ex':List Addr} {H H1 H2:Hp} {h h1 h2 h':Heap} {a x e:Addr} {o:HO}
theorem Un.any(u:Un fs ex H H1 h h1){b:Addr}{ob:Obj}(q:h.get? b=some ob)(n:H b=none)(hx:b∉ex):∃sl,h1.get? b=some {ob with slots:=sl}:=by
 by_cases hb:b∈fs
 ·exact u.slot b ob q n hb hx
 ·exact⟨ob.slots,u.keep b ob q n hb hx⟩
theorem Un.kept(k:∀b u,h.get? b=some u->h'.get? b=some u):Un fs ex H H h h':=
 ⟨λb ob q _ _ _=>k b ob q,λb ob q _ _ _=>⟨ob.slots,k b ob q⟩,λ_ _ _ n _=>n,λb ob q _=>⟨ob,k b ob q⟩,λ_ _ q=>q,λ_ _ _ q=>q,λ_ ps q=>⟨#[],by rw[q];simp⟩⟩
theorem Un.refl:Un fs ex H H h h:=Un.kept λ_ _ q=>q
theorem Un.laid(k:∀b u,h.get? b=some u->h'.get? b=some u)(hp:h.objs.size<=a)(hn:H a=none):Un fs ex H (upd H a o) h h' where
 keep:=λb u q _ _ _=>k b u q
 slot:=λb u q _ _ _=>⟨u.slots,k b u q⟩
 free:=λb u q n _=>by rw[aw (dD (gK (Heap.lt_size q) hp))];exact n
 there:=λb u q _=>⟨u,k b u q⟩
 tups:=λb xs q=>by rw[aw (aR q hn)];exact q
 frzs:=λb u xs q=>by rw[aw (aR q hn)];exact q
 tbls:=λb ps q=>⟨#[],by rw[aw (aR q hn),q];simp⟩
theorem Un.write(mu:Kd (H x))(he:e=x\/H e=some (.own x))(k:∀b u,b≠e->h.get? b=some u->h'.get? b=some u)(Fi:∃u,h'.get? e=some u):Un fs ex H (upd H x o) h h':=by
 have hx:∀b,H b=none->b≠x:=λb n z=>by subst z;rw[n] at mu;exact mu
 have hb:∀b,H b=none->b≠e:=λb n z=>by
  subst z
  rcases he with r|r
  ·exact hx b n r
  ·rw[n] at r;cases r
 have hm:∀b u,H b=some u->¬Kd (some u)->b≠x:=λb u q nm z=>by subst z;rw[q] at mu;exact nm mu
 refine⟨λb u q n _ _=>k b u (hb b n) q,λb u q n _ _=>⟨u.slots,k b u (hb b n) q⟩,λb u q n _=>by rw[aw (hx b n)];exact n,λb u q _=>?_,
  λb xs q=>by rw[aw (hm b _ q λz=>z)];exact q,λb u xs q=>by rw[aw (hm b _ q λz=>z)];exact q,λb ps q=>⟨#[],by rw[aw (hm b _ q λz=>z),q];simp⟩⟩
 by_cases Cf:b=e
 ·subst Cf;exact Fi
 ·exact⟨u,k b u Cf q⟩
end
def Ms(h:Heap)(H:Hp):List Addr:=(List.range h.objs.size).filter λa=>(H a).isSome
def qk(h:Heap)(H:Hp):Heap:=PySem.W.hideAll h (Ms h H)
theorem Cm(h:Heap)(H:Hp):(qk h H).objs.size=h.objs.size:=PySem.W.hideAll_size _ _
theorem Fj{h:Heap}{H:Hp}{b:Addr}{o:Obj}(e:h.get? b=some o)(n:H b=none):(qk h H).get? b=some o:=
 PySem.W.hideAll_get _ e λhm=>by
  have q:(H b).isSome=true:=(ib.mp hm).2;rw[n] at q;simp at q
theorem Iz{h:Heap}{H:Hp}{b:Addr}{o:Obj}(e:(qk h H).get? b=some o):h.get? b=some o/\H b=none:=by
 have e':h.get? b=some o:=PySem.W.of_hideAll (Ms h H) e;refine⟨e',?_⟩;cases q:H b with
 |none=>rfl
 |some x=>
  have hm:b∈Ms h H:=ib.mpr ⟨cT.mpr (Heap.lt_size e'),by simp[q]⟩
  have z:(qk h H).get? b=none:=PySem.W.hideAll_none (Ms h H) hm;rw[z] at e;cases e
def um(g h:Heap)(L:Addr):List (Addr×Obj):=(List.range h.objs.size).filterMap λa=>if a=L\/(g.get? a).isSome=true then none else(h.get? a).map λo=>(a,o)
theorem eV{g h:Heap}{L a:Addr}{o:Obj}(h1:a≠L)(h2:g.get? a=none)(h3:h.get? a=some o):(a,o)∈um g h L:=
 zq93.mpr ⟨a,cT.mpr (Heap.lt_size h3),by simp[h1,h2,h3]⟩
theorem tK{g h:Heap}{L:Addr}{p:Addr×Obj}(hp:p∈um g h L):p.1≠L/\g.get? p.1=none/\h.get? p.1=some p.2:=by
 obtain⟨b,_,e⟩:=zq93.mp hp
 split at e
 ·cases e
 ·rename_i hn
  cases q:h.get? b with
  |none=>rw[q] at e;simp at e
  |some u=>
   rw[q] at e;simp only[Option.map_some,Option.some.injEq] at e;subst e;refine⟨λz=>hn (.inl z),?_,q⟩;show g.get? b=none;cases r:g.get? b with
   |none=>rfl
   |some v=>exact(hn (.inr (by simp[r]))).elim
theorem xW{g h:Heap}{L:Addr}:News g L h (um g h L):=λp hp=>let ⟨a,b,c⟩:=tK hp;⟨c,a,b⟩
structure Mod (K:PySem.W.Frag) (mg:Str->Option Value) (base:Heap):Prop where
 kin:K.In base
 glob:base.Ns mainGlobals mg
 blt:∃mb,base.Ns builtinsNs mb/\∀x:Str,x≠"__name__"->mb x=bootBuiltins x
 nolimit:base.NoLimit
structure Cx where
 prog:Program
 w:World
 K:PySem.W.Frag
 mg:Str->Option Value
 base:Heap
 A:Around
 N:List Str
 s₀:Shared
 H₀:Hp
 env:Env
 outer:List Env
 stack:List Env
 ex:List Addr
 fn:Str->Bool
 calm:Bool
 pn:List (Addr×Obj)
 xe:Value->Shared->Prop
def uX(l:List Env):List Addr:=l.filterMap (·.frame)
abbrev Cx.fs(X:Cx):List Addr:=uX X.outer
def kT(sc:Scope)(x:Str):Prop:=sc.names.lookup x=some .local\/sc.names.lookup x=some .cell\/sc.names.lookup x=some .free
def Loc(sc:Scope)(x:Str):Prop:=sc.names.lookup x=some .local\/sc.names.lookup x=some .cell
def Look(env:Env)(h:Heap)(m:Str->Option Value)(x:Str)(u:Value):Prop:=
 (env.kindOf x=some .local/\m x=some u)\/((env.kindOf x=some .cell\/env.kindOf x=some .free)/\∃c,env.cells.lookup x=some c/\h.IsCell c (some u))
structure Cx.Ok (X:Cx):Prop where
 mod:Mod X.K X.mg X.base
 kind:X.env.scope.kind= .function
 glob:X.env.globals=mainGlobals
 blt:X.env.builtins=builtinsNs
 above:X.s₀.heap.objs.size<=X.env.locals
 inj:∀x y c,X.env.cells.lookup x=some c->X.env.cells.lookup y=some c->x=y
 has:∀x,(X.env.kindOf x=some .cell\/X.env.kindOf x=some .free)->∃c,X.env.cells.lookup x=some c
 cab:∀x c,X.fn x=true->X.env.cells.lookup x=some c->X.s₀.heap.objs.size<=c
 hd:X.calm=true->X.A.handled=none
 frames:X.A.frames=some X.stack
 stk:X.stack=X.outer\/(X.stack=X.env::X.outer/\X.env.frame=some X.env.locals)
 exf:∀b∈X.ex,b≠X.env.locals/\∀x c,X.env.cells.lookup x=some c->c≠b
 bs:∀b o,X.base.get? b=some o->X.s₀.heap.get? b=some o/\X.H₀ b=none
 bsz:X.base.objs.size<=X.s₀.heap.objs.size
 noex:∀b o,X.base.get? b=some o->b∉X.ex
 exfs:∀b∈X.ex,b∉X.fs
 funs:X.s₀.heap.FunFrames X.base X.outer
 frf:∀b∈X.fs,X.H₀ b=none
structure Inv (X:Cx) (pins:List (Addr×Obj)) (σ:List (Option V)) (H:Hp) (s:Shared):Prop where
 ok:X.Ok
 os:s.os=X.s₀.os
 bare:AllBare s.gens
 base:Un X.fs X.ex X.H₀ H X.s₀.heap s.heap
 loc:∃m,s.heap.Ns X.env.locals m/\∀(i:Nat)(x:Str)(v:V),X.N[i]? =some x->σ[i]? =some (some v)->kT X.env.scope x->∃u,RelV v u/\Look X.env s.heap m x u
 cell:∀x c,X.env.cells.lookup x=some c->∃v,s.heap.IsCell c v
 free:H X.env.locals=none
 freeC:∀x c,X.env.cells.lookup x=some c->H c=none
 pin:∀p∈X.pn++pins,s.heap.get? p.1=some p.2/\H p.1=none/\p.1≠X.env.locals/\p.1∉X.fs/\∀v,p.2.data≠ .cell v
 hok:iK X.prog X.w H s.heap
 len:σ.length=X.N.length
section
variable {X:Cx} {pins:List (Addr×Obj)} {σ:List (Option V)} {H H':Hp} {s:Shared} {h':Heap}
theorem Cx.Ok.VO(ok:X.Ok){b:Addr}{o:Obj}(e:X.base.get? b=some o):b∉X.fs:=λhb=>by
 have:=(ok.funs.mem hb).1
 rw[e] at this;cases this
theorem Inv.bs(I:Inv X pins σ H s):∀b o,X.base.get? b=some o->s.heap.get? b=some o/\H b=none:=λb o e=>
 ⟨I.base.keep b o (I.ok.bs b o e).1 (I.ok.bs b o e).2 (I.ok.VO e) (I.ok.noex b o e),I.base.free b o (I.ok.bs b o e).1 (I.ok.bs b o e).2 (I.ok.noex b o e)⟩
theorem Inv.bk(I:Inv X pins σ H s):∀b o,X.base.get? b=some o->s.heap.get? b=some o:=λb o e=>(I.bs b o e).1
theorem Inv.mod(I:Inv X pins σ H s):Mod X.K X.mg X.base:=I.ok.mod
theorem Inv.ik(I:Inv X pins σ H s):X.K.In s.heap:=I.ok.mod.kin.keeps I.bk
theorem Inv.fr(I:Inv X pins σ H s):∃m,Fr X.base X.env.locals s.heap m:=
 let ⟨m,hn,_⟩:=I.loc
 ⟨m,hn,I.bk,jx I.ok.bsz I.ok.above⟩
theorem Inv.lt(I:Inv X pins σ H s):X.env.locals<s.heap.objs.size:=let ⟨_,hn,_⟩:=I.loc;hn.lt
theorem Inv.sz(I:Inv X pins σ H s):X.s₀.heap.objs.size<=s.heap.objs.size:=jx I.ok.above (qZ I.lt)
theorem Inv.Ip(I:Inv X pins σ H s){a:Addr}(h:s.heap.objs.size<=a):a∉X.fs:=λhb=>by
 obtain⟨_,o,ho,_⟩:=I.ok.funs.mem hb;exact absurd (gK (Heap.lt_size ho) (jx I.sz h)) (fz _)
theorem Inv.BX(I:Inv X pins σ H s):∀x c,X.env.cells.lookup x=some c->c≠X.env.locals:=λx c e z=>by
 obtain⟨v,o,ho,hd⟩:=I.cell x c e;obtain⟨m,⟨o',es,ep,g7,gP,_⟩,_⟩:=I.loc;rw[z,g7] at ho;cases ho;rw[gP] at hd;cases hd
theorem Inv.funs(I:Inv X pins σ H s):s.heap.FunFrames X.base X.outer:=by
 have all:∀(l:List Env),(∀b∈uX l,b∈X.fs)->X.s₀.heap.FunFrames X.base l->s.heap.FunFrames X.base l:=by
  intro l
  induction l with
  |nil=>intro _ _;trivial
  |cons env r ih=>
   intro hs hl;rfl';obtain⟨hk,⟨L,o,hf,hn,ho,hd⟩,hr⟩:=hl;have hL:L∈X.fs:=hs L (by unfold uX;rw[List.filterMap_cons,hf];exact b6)
   obtain⟨sl,e⟩:=I.base.slot L o ho (I.ok.frf L hL) hL λz=>I.ok.exfs L z hL;ac_rfl;exact⟨hk,⟨L,_,hf,hn,e,hd⟩,ih (λb hb=>hs b (by unfold uX;rw[List.filterMap_cons,hf];exact bP _ hb)) hr⟩
 exact all X.outer (λ_ hb=>hb) I.ok.funs
theorem Inv.stack(I:Inv X pins σ H s):s.heap.FunFrames X.base X.stack:=by
 rcases I.ok.stk with e| ⟨e,hf⟩
 ·rw[e];exact I.funs
 ·rw[e]
  obtain⟨m,hn,_⟩:=I.loc;refine .cons (by rw[I.ok.kind];decide) hf hn ?_ I.funs
  exact Heap.get?_none_of_le (jx I.ok.bsz I.ok.above)
theorem Inv.zJ(I:Inv X pins σ H s):∀b∈uX X.stack,b∈X.env.locals::X.fs:=λb hb=>by
 rcases I.ok.stk with e| ⟨e,hf⟩
 ·rw[e] at hb;exact bP _ hb
 ·rw[e] at hb
  unfold uX at hb;rw[List.filterMap_cons,hf] at hb;exact hb
theorem Inv.Bx(I:Inv X pins σ H s):∀b∈uX X.stack,H b=none:=λb hb=>by
 rcases cm.mp (I.zJ b hb) with e|hb
 ·rw[e];exact I.free
 ·obtain⟨_,o,ho,_⟩:=I.ok.funs.mem hb
  exact I.base.free b o ho (I.ok.frf b hb) λz=>I.ok.exfs b z hb
theorem Inv.step{g':Array GenState}{t':Nat}{d':Drawn}{ch:List Addr}(I:Inv X pins σ H s)
  (wJ:∀b∈ch,(b∈X.ex\/X.s₀.heap.objs.size<=b)/\b≠X.env.locals/\(∀x c,X.env.cells.lookup x=some c->c≠b)/\∀p∈X.pn++pins,p.1≠b)
  (keep:∀b o,b≠X.env.locals->b∉X.fs->b∉ch->s.heap.get? b=some o->H b=none->h'.get? b=some o)
  (slot:∀b o,b≠X.env.locals->b∈X.fs->b∉ch->s.heap.get? b=some o->H b=none->∃sl,h'.get? b=some {o with slots:=sl}) (free:∀b o,b∉ch->s.heap.get? b=some o->H b=none->H' b=none)
  (there:∀b o,b∉ch->s.heap.get? b=some o->∃o',h'.get? b=some o')
  (tups:∀b xs,H b=some (.tup xs)->H' b=some (.tup xs)) (frzs:∀b o u,H b=some (.oX o u)->H' b=some (.oX o u)) (tbls:∀b ps,H b=some (.Bz ps)->∃more,H' b=some (.Bz (ps++more)))
  (ns:∀m,s.heap.Ns X.env.locals m->h'.Ns X.env.locals m) (hok:iK X.prog X.w H' h') (hg:AllBare g'):
  Inv X pins σ H' {s with heap:=h',gens:=g',drawn:=d',toks:=t'}:=by
 have VM:∀b o,X.s₀.heap.get? b=some o->b≠X.env.locals:=λb o e=>dD (gK (Heap.lt_size e) I.ok.above)
 have FC:∀b o,X.s₀.heap.get? b=some o->b∉X.ex->b∉ch:=λb o e hx hb=>by
  rcases(wJ b hb).1 with z|z
  ·exact hx z
  ·exact absurd (gK (Heap.lt_size e) z) (fz _)
 have cellK:∀x c,X.env.cells.lookup x=some c->∀v,s.heap.IsCell c v->h'.IsCell c v:=λx c e v ⟨o,ho,hd⟩=>by
  have Ik:c∉ch:=λz=>(wJ c z).2.2.1 x c e rfl
  by_cases hc:c∈X.fs
  ·obtain⟨sl,q⟩:=slot c o (I.BX x c e) hc Ik ho (I.freeC x c e)
   exact⟨_,q,hd⟩
  ·exact⟨o,keep c o (I.BX x c e) hc Ik ho (I.freeC x c e),hd⟩
 refine⟨I.ok,I.os,hg,⟨λb o e n hb hx=>?_,λb o e n hb hx=>?_,λb o e n hx=>?_,λb o e hx=>?_,λb xs e=>tups b xs (I.base.tups b xs e),λb o xs e=>frzs b o xs (I.base.frzs b o xs e),λb ps e=>?_⟩,?_,λx c e=>?_,?_,λx c e=>?_,λp hp=>?_,hok,I.len⟩
 ·exact keep b o (VM b o e) hb (FC b o e hx) (I.base.keep b o e n hb hx) (I.base.free b o e n hx)
 ·obtain⟨sl,e1⟩:=I.base.slot b o e n hb hx
  obtain⟨sl',e2⟩:=slot b _ (VM b o e) hb (FC b o e hx) e1 (I.base.free b o e n hx);exact⟨sl',e2⟩
 ·obtain⟨o',e1⟩:=I.base.there b o e hx
  exact free b o' (FC b o e hx) e1 (I.base.free b o e n hx)
 ·obtain⟨o',e1⟩:=I.base.there b o e hx
  exact there b o' (FC b o e hx) e1
 ·obtain⟨m1,e1⟩:=I.base.tbls b ps e
  obtain⟨m2,e2⟩:=tbls b _ e1;exact⟨m1++m2,by rw[e2,Array.append_assoc]⟩
 ·obtain⟨m,hn,hl⟩:=I.loc
  refine⟨m,ns m hn,λi x v e1 e2 e3=>?_⟩;obtain⟨u,r,l⟩:=hl i x v e1 e2 e3;refine⟨u,r,?_⟩
  rcases l with l| ⟨k,c,e,z⟩
  ·exact .inl l
  ·exact .inr ⟨k,c,e,cellK x c e _ z⟩
 ·obtain⟨v,z⟩:=I.cell x c e
  exact⟨v,cellK x c e v z⟩
 ·obtain⟨m,⟨o,_,_,ho,_⟩,_⟩:=I.loc
  exact free _ o (λz=>(wJ _ z).2.1 rfl) ho I.free
 ·obtain⟨v,o,ho,hd⟩:=I.cell x c e
  exact free c o (λz=>(wJ c z).2.2.1 x c e rfl) ho (I.freeC x c e)
 ·obtain⟨e,n,ne,nf,d⟩:=I.pin p hp
  have Ik:p.1∉ch:=λz=>(wJ p.1 z).2.2.2 p hp rfl;exact⟨keep p.1 p.2 ne nf Ik e n,free p.1 p.2 Ik e n,ne,nf,d⟩
theorem Inv.un{t':Nat}(I:Inv X pins σ H s)(u:Un X.fs [] H H' s.heap h')(hok:iK X.prog X.w H' h'):Inv X pins σ H' {s with heap:=h',toks:=t'}:=by
 rfl';obtain⟨m,⟨o,es,ep,ho,r⟩,_⟩:=id I.loc;obtain⟨sl,hL⟩:=u.any ho I.free (by simp)
 ac_rfl
 exact I.step (g':=s.gens) (d':=s.drawn) (ch:= []) (λ_ z=>nomatch z) (λb o _ hb _ e n=>u.keep b o e n hb (by simp)) (λb o _ hb _ e n=>u.slot b o e n hb (by simp)) (λb o _ e n=>u.free b o e n (by simp)) (λb o _ e=>u.there b o e (by simp)) u.tups u.frzs u.tbls (λm' hm=>by
  rfl';obtain⟨o',mJ,B7,g7,r'⟩:=hm;ac_rfl;rw[ho] at g7;cases g7;exact⟨_,mJ,B7,hL,r'⟩) hok I.bare
theorem Inv.call{g':Array GenState}{t':Nat}{d':Drawn}{ch:List Addr}(I:Inv X pins σ H s)(u:Un (uX X.stack) ch H H' s.heap h')(hok:iK X.prog X.w H' h')(hg:AllBare g')
  (wJ:∀b∈ch,(b∈X.ex\/X.s₀.heap.objs.size<=b)/\b≠X.env.locals/\(∀x c,X.env.cells.lookup x=some c->c≠b)/\∀p∈X.pn++pins,p.1≠b):
  Inv X pins σ H' {s with heap:=h',gens:=g',drawn:=d',toks:=t'}:=by
 rfl';obtain⟨m,⟨o,es,ep,ho,r⟩,_⟩:=id I.loc;obtain⟨sl,hL⟩:=u.any ho I.free λz=>(wJ _ z).2.1 rfl;ac_rfl
 exact I.step (ch:=ch) wJ (λb o hL hb hc e n=>u.keep b o e n (λz=>(cm.mp (I.zJ b z)).elim hL hb) hc) (λb o _ _ hc e n=>u.any e n hc) (λb o hc e n=>u.free b o e n hc) (λb o hc e=>u.there b o e hc) u.tups u.frzs u.tbls (λm' hm=>by
  rfl';obtain⟨o',mJ,B7,g7,r'⟩:=hm;ac_rfl;rw[ho] at g7;cases g7;exact⟨_,mJ,B7,hL,r'⟩) hok hg
theorem Inv.turned{t':Nat}{it:Addr}(I:Inv X pins σ H s)(k:∀b o,b≠it->s.heap.get? b=some o->h'.get? b=some o)(hn:H it=none)(hL:it≠X.env.locals)
  (h1:it∈X.ex\/X.s₀.heap.objs.size<=it) (h2:∀x c,X.env.cells.lookup x=some c->c≠it) (h3:∀p∈X.pn++pins,p.1≠it):Inv X pins σ H {s with heap:=h',toks:=t'}:=by
 have VN:∀b u,H b=some u->b≠it:=λb u e z=>by rw[z,hn] at e;cases e
 refine I.step (g':=s.gens) (d':=s.drawn) (ch:= [it]) (λb hb=>?_) (λb o _ _ hc e _=>k b o (λz=>hc (by simp[z])) e) (λb o _ _ hc e _=>⟨o.slots,k b o (λz=>hc (by simp[z])) e⟩) (λ_ _ _ _ n=>n)
  (λb o hc e=>⟨o,k b o (λz=>hc (by simp[z])) e⟩) (λ_ _ e=>e) (λ_ _ _ e=>e) (λb ps e=>⟨#[],by rw[e];simp⟩) (λm hm=>?_) (λb u e=>?_) I.bare
 ·have e:b=it:=by simpa using hb
  subst e;exact⟨h1,hL,h2,h3⟩
 ·obtain⟨o,es,ep,ho,r⟩:=hm
  exact⟨o,es,ep,k _ o (Ne.symm hL) ho,r⟩
 ·refine(I.hok b u e).qP (λc v hc q=>k c v ?_ q) (λ_ q=>q) λ_ _ q=>q
  rcases hc with z|z
  ·rw[z];exact VN b u e
  ·exact VN c _ z
theorem Inv.tok(I:Inv X pins σ H s)(t:Nat):Inv X pins σ H {s with toks:=t}:=I.un (h':=s.heap) (t':=t) Un.refl I.hok
theorem Inv.kept{t':Nat}(I:Inv X pins σ H s)(k:∀b u,s.heap.get? b=some u->h'.get? b=some u):Inv X pins σ H {s with heap:=h',toks:=t'}:=I.un (Un.kept k) (I.hok.kept k)
theorem Inv.laid{a:Addr}{o:HO}{t':Nat}(I:Inv X pins σ H s)(k:∀b u,s.heap.get? b=some u->h'.get? b=some u)(hp:s.heap.objs.size<=a)(new:cP X.prog X.w (upd H a o) h' a o):
  Inv X pins σ (upd H a o) {s with heap:=h',toks:=t'}:=I.un (Un.laid k hp (I.hok.fresh hp)) (I.hok.laid k hp new)
theorem Inv.write{x e:Addr}{o:HO}{t':Nat}(I:Inv X pins σ H s)(mu:Kd (H x))(he:e=x\/H e=some (.own x))(k:∀b u,b≠e->s.heap.get? b=some u->h'.get? b=some u)(Fi:∃u,h'.get? e=some u)
  (new:cP X.prog X.w (upd H x o) h' x o):Inv X pins σ (upd H x o) {s with heap:=h',toks:=t'}:=I.un (Un.write mu he k Fi) (I.hok.write mu he k Fi new)
theorem Inv.kE{zD:List (Addr×Obj)}(I:Inv X pins σ H s)(h:∀p∈zD,s.heap.get? p.1=some p.2/\H p.1=none/\p.1≠X.env.locals/\p.1∉X.fs/\∀v,p.2.data≠ .cell v):Inv X zD σ H s:=
 ⟨I.ok,I.os,I.bare,I.base,I.loc,I.cell,I.free,I.freeC,λp hp=>(fK.mp hp).elim (λz=>I.pin p (kM _ z)) (h p),I.hok,I.len⟩
theorem xX{N:List Str}(hN:N.Nodup){i j:Nat}{x:Str}(a:N[i]? =some x)(b:N[j]? =some x):i=j:=by
 obtain⟨h1,e1⟩:=dE.mp a;obtain⟨h2,e2⟩:=dE.mp b;exact(List.getElem_inj hN).mp (e1.trans e2.symm)
theorem store_ok2{M:Model}{A:Around}{E:Value->Shared->Prop}{i:Nat}{x:Str}{v:V}{u:Value}{Q:Unit->Shared->Prop}(I:Inv X pins σ H s)(hN:X.N.Nodup)(hi:X.N[i]? =some x)(hx:Loc X.env.scope x)(r:RelV v u)
  (h:∀s',Inv X pins (σ.set i (some v)) H s'->(∃a,Heap.SameBut a s.heap s'.heap/\(a=X.env.locals\/X.env.cells.lookup x=some a))->Q () s') (hf:X.fn x=true\/X.env.scope.names.lookup x=some .local:=by first|exact .inl rfl|exact .inr rfl|assumption):wpAny M A (storeName X.env x u) Q E s:=by
 obtain⟨m,hn,hl⟩:=id I.loc;have Uh:(X.env.scope.kind== .class|| (X.env.scope.kind== .module&&X.env.locals !=X.env.globals))=false:=by rw[I.ok.kind];rfl
 have NA:i<σ.length:=by rw[I.len];exact(dE.mp hi).1
 have BX:=I.BX
 have tracked:∀{a:Addr}{h':Heap},(∃o,s.heap.get? a=some o/\H a=none)->Heap.SameBut a s.heap h'->iK X.prog X.w H h':=λ {a h'} ha hs b ob e=>by
  obtain⟨_,_,y3⟩:=ha;refine(I.hok b ob e).qP (λc w' hc q=>(hs.2 c ?_).trans q) (λ_ q=>q) λ_ _ q=>q;rintro rfl
  rcases hc with rfl|hc
  ·rw[y3] at e;cases e
  ·rw[y3] at hc;cases hc
 rcases hx with hk|hk
 ·refine wpAny_storeName_local hk hn (λh' hn' hs=>?_) Uh
  obtain⟨oL,_,_,hoL,_⟩:=id hn;refine h _ ⟨I.ok,I.os,I.bare,⟨λb o e n hb hx=>?_,λb o e n hb hx=>?_,I.base.free,λb o e hx=>?_,I.base.tups,I.base.frzs,I.base.tbls⟩,⟨_,hn',λj y v' e1 e2 e3=>?_⟩,λy c e=>?_,I.free,I.freeC,λp hp=>?_,tracked ⟨oL,hoL,I.free⟩ hs,by simpa using I.len⟩ ⟨_,hs, .inl rfl⟩
  ·exact(hs.2 b (dD (gK (Heap.lt_size e) I.ok.above))).trans (I.base.keep b o e n hb hx)
  ·obtain⟨sl,e1⟩:=I.base.slot b o e n hb hx
   exact⟨sl,(hs.2 b (dD (gK (Heap.lt_size e) I.ok.above))).trans e1⟩
  ·obtain⟨o',e1⟩:=I.base.there b o e hx
   exact⟨o',(hs.2 b (dD (gK (Heap.lt_size e) I.ok.above))).trans e1⟩
  ·by_cases hj:j=i
   ·subst hj
    rw[hi] at e1;cases e1;rw[iH NA] at e2;cases e2;exact⟨u,r, .inl ⟨hk,by simp⟩⟩
   ·rw[jv (Ne.symm hj)] at e2
    obtain⟨u',r',q⟩:=hl j y v' e1 e2 e3;refine⟨u',r',?_⟩
    rcases q with ⟨k,e⟩ | ⟨k,c,e,z⟩
    ·refine .inl ⟨k,?_⟩
     have:y≠x:=λe=>hj (xX hN e1 (e▸hi))
     simp[this,e]
    ·exact .inr ⟨k,c,e,z.sameBut hs (BX y c e)⟩
  ·obtain⟨w',z⟩:=I.cell y c e
   exact⟨w',z.sameBut hs (BX y c e)⟩
  ·obtain⟨e,n,ne,nf,d⟩:=I.pin p hp
   exact⟨(hs.2 p.1 ne).trans e,n,ne,nf,d⟩
 ·have Pu:X.fn x=true:=by
   rcases hf with z|z
   ·exact z
   ·rw[z] at hk;cases hk
  obtain⟨c,hc⟩:=I.ok.has x (.inl hk);obtain⟨w',z⟩:=I.cell x c hc;refine wpAny_storeName_cell I.ok.kind hk hc z (λh' n9 hs=>?_);obtain⟨oc,UG,UH⟩:=id z;refine h {s with heap:=h'} ⟨I.ok,I.os,I.bare,⟨λb o e n hb hx=>?_,λb o e n hb hx=>?_,I.base.free,λb o e hx=>?_,I.base.tups,I.base.frzs,I.base.tbls⟩,⟨m,hn.sameBut hs (Ne.symm (BX x c hc)),λj y v' e1 e2 e3=>?_⟩,λy c' e=>?_,I.free,I.freeC,λp hp=>?_,tracked ⟨oc,UG,I.freeC x c hc⟩ hs,by simpa using I.len⟩ ⟨c,hs, .inr hc⟩
  ·exact(hs.2 b (dD (gK (Heap.lt_size e) (I.ok.cab x c Pu hc)))).trans (I.base.keep b o e n hb hx)
  ·obtain⟨sl,e1⟩:=I.base.slot b o e n hb hx
   exact⟨sl,(hs.2 b (dD (gK (Heap.lt_size e) (I.ok.cab x c Pu hc)))).trans e1⟩
  ·obtain⟨o',e1⟩:=I.base.there b o e hx
   exact⟨o',(hs.2 b (dD (gK (Heap.lt_size e) (I.ok.cab x c Pu hc)))).trans e1⟩
  ·by_cases hj:j=i
   ·subst hj
    rw[hi] at e1;cases e1;rw[iH NA] at e2;cases e2;exact⟨u,r, .inr ⟨.inl hk,c,hc,n9⟩⟩
   ·rw[jv (Ne.symm hj)] at e2
    obtain⟨u',r',q⟩:=hl j y v' e1 e2 e3;refine⟨u',r',?_⟩
    rcases q with q| ⟨k,c',e,z'⟩
    ·exact .inl q
    ·refine .inr ⟨k,c',e,z'.sameBut hs ?_⟩
     rintro rfl;exact hj (xX hN e1 (I.ok.inj _ _ _ e hc▸hi))
  ·by_cases Ug:c'=c
   ·subst Ug;exact⟨_,n9⟩
   ·obtain⟨w2,z2⟩:=I.cell y c' e
    exact⟨w2,z2.sameBut hs Ug⟩
  ·obtain⟨e,n,ne,nf,d⟩:=I.pin p hp
   refine⟨(hs.2 p.1 ?_).trans e,n,ne,nf,d⟩;intro q;rw[q,UG] at e;have q':oc=p.2:=Option.some.inj e;exact d w' (by rw[<-q'];exact UH)
theorem i7{M:Model}{A:Around}{E:Value->Shared->Prop}{i:Nat}{x:Str}{v:V}{u:Value}{Q:Unit->Shared->Prop}(I:Inv X pins σ H s)(hN:X.N.Nodup)(hi:X.N[i]? =some x)(hx:Loc X.env.scope x)(r:RelV v u)
  (h:∀s',Inv X pins (σ.set i (some v)) H s'->Q () s') (hf:X.fn x=true\/X.env.scope.names.lookup x=some .local:=by first|exact .inl rfl|exact .inr rfl|assumption):wpAny M A (storeName X.env x u) Q E s:=
 store_ok2 I hN hi hx r (λs' I' _=>h s' I') hf
theorem Inv.N8{s':Shared}{ch:List Addr}(I:Inv X pins σ H s)(ho:s'.os=s.os)(u:Un (uX X.stack) ch H H' s.heap s'.heap)(hok:iK X.prog X.w H' s'.heap)(hg:AllBare s'.gens)
  (wJ:∀b∈ch,(b∈X.ex\/X.s₀.heap.objs.size<=b)/\b≠X.env.locals/\(∀x c,X.env.cells.lookup x=some c->c≠b)/\∀p∈X.pn++pins,p.1≠b):Inv X pins σ H' s':=by
 obtain⟨h',g',d',t',o'⟩:=s';have e:o'=s.os:=ho;subst e;exact I.call (g':=g') (t':=t') (d':=d') u hok hg wJ
end
abbrev XK:=Value->Option Addr->Hp->Prop
abbrev St:=List (Option V)
abbrev VK:=V->Hp->Prop
abbrev TE:=St->Hp->VK->Prop
abbrev TT:=St->Hp->(Bool->Hp->Prop)->Prop
abbrev TA:=St->Hp->(List V->Hp->Prop)->Prop
structure Ends where
 nx:St->Hp->Prop
 rt:VK
 bk:St->Hp->Prop:=λ_ _=>False
 ct:St->Hp->Prop:=λ_ _=>False
abbrev TS:=Ends->St->Hp->Prop
def EP(X:Cx)(pins:List (Addr×Obj))(σ:St)(Q:VK)(u:Value)(s':Shared):Prop:=∃v H',Inv X pins σ H' s'/\RelV v u/\Q v H'
def TP(X:Cx)(pins:List (Addr×Obj))(σ:St)(Q:Bool->Hp->Prop)(b:Bool)(s':Shared):Prop:=∃H',Inv X pins σ H' s'/\Q b H'
def AP(X:Cx)(pins:List (Addr×Obj))(σ:St)(Q:List V->Hp->Prop)(us:List Value)(s':Shared):Prop:=∃vs H',Inv X pins σ H' s'/\Vals vs us/\Q vs H'
def SP(X:Cx)(pins:List (Addr×Obj))(D:Ends)(f:Flow)(s':Shared):Prop:=
 match f with
 | .next=>∃az H',Inv X pins az H' s'/\D.nx az H'
 | .brk=>∃az H',Inv X pins az H' s'/\D.bk az H'
 | .cont=>∃az H',Inv X pins az H' s'/\D.ct az H'
 | .ret u=>∃v az H',Inv X pins az H' s'/\RelV v u/\D.rt v H'
def PE(X:Cx)(e:Expr)(t:TE):Prop:=
 ∀(pins:List (Addr×Obj))(s:Shared)(σ:St)(H:Hp)(Q:VK),Inv X pins σ H s->t σ H Q->wpAny (model X.prog X.w) X.A (eval e X.env) (EP X pins σ Q) X.xe s
def PT(X:Cx)(e:Expr)(t:TT):Prop:=
 ∀(pins:List (Addr×Obj))(s:Shared)(σ:St)(H:Hp)(Q:Bool->Hp->Prop),Inv X pins σ H s->t σ H Q->wpAny (model X.prog X.w) X.A (isTrue e X.env (eval e X.env)) (TP X pins σ Q) X.xe s
def PW(X:Cx)(e:Expr)(t:TT):Prop:=
 ∀(whole:Sem Value)(pins:List (Addr×Obj))(s:Shared)(σ:St)(H:Hp)(Q:Bool->Hp->Prop),Inv X pins σ H s->t σ H Q->wpAny (model X.prog X.w) X.A (isTrue e X.env whole) (TP X pins σ Q) X.xe s
theorem PW.pt{X:Cx}{e:Expr}{t:TT}(h:PW X e t):PT X e t:=h _
def PA(X:Cx)(es:List Expr)(t:TA):Prop:=
 ∀(pos:Pos)(pins:List (Addr×Obj))(s:Shared)(σ:St)(H:Hp)(Q:List V->Hp->Prop),Inv X pins σ H s->t σ H Q->wpAny (model X.prog X.w) X.A (spliced (backTo pos (starEach es X.env))) (AP X pins σ Q) X.xe s
def PS(X:Cx)(st:Stmt)(t:TS):Prop:=
 ∀(pins:List (Addr×Obj))(s:Shared)(σ:St)(H:Hp)(D:Ends),Inv X pins σ H s->t D σ H->wpAny (model X.prog X.w) X.A (exec st X.env) (SP X pins D) X.xe s
def me(X:Cx)(st:List Stmt)(t:TS):Prop:=
 ∀(pins:List (Addr×Obj))(s:Shared)(σ:St)(H:Hp)(D:Ends),Inv X pins σ H s->t D σ H->wpAny (model X.prog X.w) X.A (execs st X.env) (SP X pins D) X.xe s
theorem thn{α:Type}{t:Sem α}{Q Q':α->Shared->Prop}{M:Model}{A:Around}{E:Value->Shared->Prop}{s:Shared}(h:wpAny M A t Q E s)(hQ:∀a s,Q a s->Q' a s):wpAny M A t Q' E s:=wpAny_mono h hQ λ_ _ x=>x
section
variable {X:Cx}
def NV(i:Nat):TE:=λσ H Q=>∃v,σ[i]? =some (some v)/\Q v H
def tC(v:V):TE:=λ_ H Q=>Q v H
theorem zC{i:Nat}{x:Str}{pos:Pos}(hN:X.N[i]? =some x)(hv:kT X.env.scope x)(hd:(x==("__debug__":Str))=false:=by decide)(dG:(x==("__classdict__":Str))=false:=by decide):PE X (.Name x pos) (NV i):=by
 intro pins s σ H Q I h;rfl';obtain⟨v,e,h⟩:=h;obtain⟨m,hn,hl⟩:=I.loc;obtain⟨u,r,l⟩:=hl i x v hN e hv;have fin:EP X pins σ Q u s:=⟨v,H,I,r,h⟩;ac_rfl
 rcases l with ⟨hk,hm⟩ | ⟨hk,c,hc,HD⟩
 ·exact wpAny_Name (wpAny_loadName_local I.ok.kind hk hn hm fin) hd
 ·rcases hk with hk|hk
  ·exact wpAny_Name (wpAny_loadName_cell I.ok.kind hk hc HD fin) hd
  ·exact wpAny_Name (wpAny_loadName_free I.ok.kind hk hc HD fin dG) hd
theorem LK{i j pos}:PE X (.Constant (.int i) j pos) (tC (.int i)):=λ_ _ _ H _ I h=>wpAny_Constant_int ⟨.int i,H,I.tok _,⟨_,rfl⟩,h⟩
theorem Qk{b j pos}:PE X (.Constant (.bool b) j pos) (tC (.bl b)):=λ_ _ _ H _ I h=>Constant_bool ⟨.bl b,H,I,rfl,h⟩
theorem LM{j pos}:PE X (.Constant .none j pos) (tC .bb):=λ_ _ _ H _ I h=>Constant_none ⟨.bb,H,I,rfl,h⟩
theorem LP{x j pos}:PE X (.Constant (.str x) j pos) (tC (.str x)):=λ_ _ _ H _ I h=>Calls.Constant_str ⟨.str x,H,I.tok _,⟨_,rfl⟩,h⟩
def Gl(X:Cx)(x:Str):Prop:=X.env.kindOf x=some .globalImplicit
theorem vd{E:Value->Shared->Prop}{pins:List (Addr×Obj)}{s:Shared}{σ:St}{H:Hp}{x:Str}{u:Value}{pos:Pos}{Q:Value->Shared->Prop}(I:Inv X pins σ H s)(hg:Gl X x)(hm:X.mg x=some u)(h:Q u s)
  (hd:(x==("__debug__":Str))=false:=by decide):wpAny (model X.prog X.w) X.A (eval (.Name x pos) X.env) Q E s:=
 Calls.Name_function_global I.ok.kind hg (Calls.loadGlobal_global (by rw[I.ok.glob];exact I.mod.glob.keeps I.bk) hm h) hd
theorem gz{E:Value->Shared->Prop}{pins:List (Addr×Obj)}{s:Shared}{σ:St}{H:Hp}{x:Str}{u:Value}{pos:Pos}{Q:Value->Shared->Prop}(I:Inv X pins σ H s)(hg:Gl X x)(hm:X.mg x=none)(hv:bootBuiltins x=some u)(h:Q u s)
  (hn:x≠"__name__":=by decide) (hd:(x==("__debug__":Str))=false:=by decide):wpAny (model X.prog X.w) X.A (eval (.Name x pos) X.env) Q E s:=by
 obtain⟨mb,h1,h2⟩:=I.mod.blt;exact Calls.Name_function_global I.ok.kind hg (Calls.loadGlobal_builtin (by rw[I.ok.glob];exact I.mod.glob.keeps I.bk) hm (by rw[I.ok.blt];exact h1.keeps I.bk) ((h2 x hn).trans hv) h) hd
theorem IL{x:Str}{v:V}{u:Value}{pos:Pos}(hg:Gl X x)(hm:X.mg x=some u)(r:RelV v u)(hd:(x==("__debug__":Str))=false:=by decide):PE X (.Name x pos) (tC v):=
 λ_ _ _ H _ I h=>vd I hg hm ⟨v,H,I,r,h⟩ hd
theorem IJ{x:Str}{v:V}{u:Value}{pos:Pos}(hg:Gl X x)(hm:X.mg x=none)(hv:bootBuiltins x=some u)(r:RelV v u)(hn:x≠"__name__":=by decide)(hd:(x==("__debug__":Str))=false:=by decide):PE X (.Name x pos) (tC v):=
 λ_ _ _ H _ I h=>gz I hg hm hv ⟨v,H,I,r,h⟩ hn hd
variable {a b:Expr} {ta tb:TE} {pos:Pos}
variable {tA zK:TT} {rest:List Expr}
def Ye(t u:TT):TT:=λσ H Q=>t σ H λc H1=>if c=true then u σ H1 Q else Q false H1
def tOr(t u:TT):TT:=λσ H Q=>t σ H λc H1=>if c=true then Q true H1 else u σ H1 Q
def Ym(t:TT):TT:=λσ H Q=>t σ H λc H1=>Q (!c) H1
theorem Jh(ha:PT X a tA):PW X (.BoolOp .And [a] pos) tA:=by
 intro wh pins s σ H Q I h;refine isTrue_and (thn (ha pins s σ H Q I h) λc s1 e=>?_);cases c with
 |true=>exact isTrue_and_nil e
 |false=>exact e
theorem L0(ha:PT X a tA):PW X (.BoolOp .Or [a] pos) tA:=by
 intro wh pins s σ H Q I h;refine isTrue_or (thn (ha pins s σ H Q I h) λc s1 e=>?_);cases c with
 |false=>exact isTrue_or_nil e
 |true=>exact e
theorem LZ(ha:PT X a tA)(hb:PW X (.BoolOp .And (b::rest) pos) zK):PW X (.BoolOp .And (a::b::rest) pos) (Ye tA zK):=by
 intro wh pins s σ H Q I h;refine isTrue_and (thn (ha pins s σ H _ I h) λc s1 ⟨H1,I1,q1⟩=>?_);cases c with
 |true=>exact hb wh pins s1 σ H1 Q I1 q1
 |false=>exact⟨H1,I1,q1⟩
theorem Qm(ha:PT X a tA)(hb:PW X (.BoolOp .Or (b::rest) pos) zK):PW X (.BoolOp .Or (a::b::rest) pos) (tOr tA zK):=by
 intro wh pins s σ H Q I h;refine isTrue_or (thn (ha pins s σ H _ I h) λc s1 ⟨H1,I1,q1⟩=>?_);cases c with
 |true=>exact⟨H1,I1,q1⟩
 |false=>exact hb wh pins s1 σ H1 Q I1 q1
theorem LY(ha:PT X a tA):PT X (.UnaryOp .Not a pos) (Ym tA):=by
 intro pins s σ H Q I h;exact isTrue_not (ha pins s σ H (λc H1=>Q (!c) H1) I h)
def QC(ta tb:TE):TE:=λσ H Q=>ta σ H λx H1=>∃c,x= .bl c/\if c=true then tb σ H1 Q else Q (.bl false) H1
def QJ(ta:TE):TE:=λσ H Q=>ta σ H λx H1=>∃c,x= .bl c/\Q (.bl (!c)) H1
theorem LO{op}{t:TE}(h:PE X a t):PE X (.BoolOp op [a] pos) t:=λpins s σ H Q I hw=>BoolOp_one (h pins s σ H Q I hw)
theorem LG(ha:PE X a ta)(hb:PE X (.BoolOp .And (b::rest) pos) tb):PE X (.BoolOp .And (a::b::rest) pos) (QC ta tb):=by
 intro pins s σ H Q I h;refine BoolOp_and (thn (ha pins s σ H _ I h) λv s1 bc=>?_);rfl';obtain⟨x,H1,I1,r1,q1⟩:=bc;obtain⟨c,rfl,q1⟩:=q1;ac_rfl;subst r1;refine wpAny_truthy_bool ?_;cases c with
 |true=>exact hb pins s1 σ H1 Q I1 q1
 |false=>exact⟨.bl false,H1,I1,rfl,q1⟩
theorem LN(ha:PE X a ta):PE X (.UnaryOp .Not a pos) (QJ ta):=by
 intro pins s σ H Q I h;refine UnaryOp_ (thn (ha pins s σ H _ I h) λv s1 bc=>?_);rfl';obtain⟨x,H1,I1,r1,q1⟩:=bc;obtain⟨c,rfl,q1⟩:=q1;ac_rfl;subst r1;exact not_of (wpAny_truthy_bool ⟨.bl (!c),H1,I1,rfl,q1⟩)
end
def bU(K:PySem.W.Frag)(H:Hp)(a:Addr)(xs:List V):Prop:=
 Rd H a (.lst xs)\/
  ∃(o:Obj)(its:Array Value)(n:Nat),K.lookup a=some o/\o.cls= .type "list"/\o.dict=none/\o.data= .seq its n/\its.size<=sizeLine/\Vals xs its.toList
def gq(K:PySem.W.Frag)(H:Hp)(a:Addr)(xs:List V):Prop:=
 Rd H a (.tup xs)\/
  ∃(o:Obj)(its:Array Value)(n:Nat),K.lookup a=some o/\o.cls= .type "tuple"/\o.data= .seq its n/\its.size<=sizeLine/\Vals xs its.toList
def Rf:Value->Option V
 | .none=>some .bb
 | .bool b=>some (.bl b)
 | .int i _=>some (.int i)
 | .str x _=>some (.str x)
 | .bytes b _=>some (.ES b)
 | .float b _=>some (.B8 b)
 | .ref a=>some (.ref a)
 | .type n=>some (.ty n)
 |_=>none
theorem RelV.abs{x:V}{u:Value}(r:RelV x u):Rf u=some x:=by
 cases x with
 |bb=>cases r;rfl
 |bl _=>cases r;rfl
 |int _=>obtain⟨t,rfl⟩:=r;rfl
 |str _=>obtain⟨t,rfl⟩:=r;rfl
 |ES _=>obtain⟨t,rfl⟩:=r;rfl
 |B8 _=>obtain⟨t,rfl⟩:=r;rfl
 |ref _=>cases r;rfl
 |ty _=>cases r;rfl
theorem RelV.inj{x y:V}{u:Value}(r:RelV x u)(q:RelV y u):x=y:=Option.some.inj (r.abs.symm.trans q.abs)
theorem Vals.inj:∀{xs ys:List V}{us:List Value},Vals xs us->Vals ys us->xs=ys
 |_,_,_, .nil, .nil=>rfl
 |_,_,_, .cons r t, .cons r' t'=>by rw[r.inj r',Vals.inj t t']
section
variable {X:Cx} {pins:List (Addr×Obj)} {σ:St} {H:Hp} {s:Shared} {a:Addr} {xs ys:List V}
theorem bU.of{K:PySem.W.Frag}(h:H a=some (.lst xs)):bU K H a xs:= .inl (.inl h)
theorem gq.of{K:PySem.W.Frag}(h:H a=some (.tup xs)):gq K H a xs:= .inl (.inl h)
theorem Inv.list(I:Inv X pins σ H s)(h:bU X.K H a xs):∃its:List Value,Vals xs its/\PlainL s.heap a its.toArray/\xs.length<=sizeLine:=by
 rcases h with h| ⟨o,its,n,hk,hc,hd,hs,hz,r⟩
 ·obtain⟨z,its,n,r,e⟩:=h.ok I.hok
  exact⟨its,r,⟨_,n,e,rfl,rfl,rfl⟩,z⟩
 ·refine⟨its.toList,r,⟨o,n,I.ik a o hk,hc,hd,by simpa using hs⟩,?_⟩
  have e:=r.length;simp only[nM] at e;omega
theorem Inv.tuple(I:Inv X pins σ H s)(h:gq X.K H a xs):∃its:List Value,Vals xs its/\IsTup s.heap a its.toArray/\xs.length<=sizeLine:=by
 rcases h with h| ⟨o,its,n,hk,hc,hs,hz,r⟩
 ·obtain⟨z,its,r,p⟩:=h.ok I.hok
  exact⟨its,r,p,z⟩
 ·refine⟨its.toList,r,⟨o,I.ik a o hk,hc,n,by simpa using hs⟩,?_⟩
  have e:=r.length;simp only[nM] at e;omega
theorem Inv.rP(I:Inv X pins σ H s)(h:bU X.K H a xs)(h':bU X.K H a ys):xs=ys:=by
 rfl';obtain⟨its,r,⟨o,n,e,_,_,d⟩,_⟩:=I.list h;obtain⟨its',r',⟨o',n',e',_,_,d'⟩,_⟩:=I.list h';ac_rfl;rw[e] at e';cases e';rw[d] at d'
 injection d' with d1 _
 have:its=its':=by simpa using congrArg Array.toList d1
 subst this;exact r.inj r'
end
abbrev Cx.oI(X:Cx)(E:Value->Shared->Prop):Cx:={X with xe:=E}
abbrev Cx.jz(X:Cx):Cx:=X.oI λ_ _=>False
theorem Cx.Ok.oI{X:Cx}(ok:X.Ok)(E:Value->Shared->Prop):(X.oI E).Ok:=
 ⟨ok.mod,ok.kind,ok.glob,ok.blt,ok.above,ok.inj,ok.has,ok.cab,ok.hd,ok.frames,ok.stk,ok.exf,ok.bs,ok.bsz,ok.noex,ok.exfs,ok.funs,ok.frf⟩
theorem Cx.Ok.jO{X:Cx}{E:Value->Shared->Prop}(ok:(X.oI E).Ok):X.Ok:=
 ⟨ok.mod,ok.kind,ok.glob,ok.blt,ok.above,ok.inj,ok.has,ok.cab,ok.hd,ok.frames,ok.stk,ok.exf,ok.bs,ok.bsz,ok.noex,ok.exfs,ok.funs,ok.frf⟩
section
variable {X:Cx} {pins:List (Addr×Obj)} {σ:St} {H:Hp} {s:Shared} {E:Value->Shared->Prop}
theorem Inv.oI(I:Inv X pins σ H s)(E:Value->Shared->Prop):Inv (X.oI E) pins σ H s:=⟨I.ok.oI E,I.os,I.bare,I.base,I.loc,I.cell,I.free,I.freeC,I.pin,I.hok,I.len⟩
theorem Inv.jO(I:Inv (X.oI E) pins σ H s):Inv X pins σ H s:=⟨I.ok.jO,I.os,I.bare,I.base,I.loc,I.cell,I.free,I.freeC,I.pin,I.hok,I.len⟩
theorem SP.jO{D:Ends}{f:Flow}{s':Shared}(h:SP (X.oI E) pins D f s'):SP X pins D f s':=by
 cases f with
 |next=>obtain⟨az,H',I,q⟩:=h;exact⟨az,H',I.jO,q⟩
 |brk=>obtain⟨az,H',I,q⟩:=h;exact⟨az,H',I.jO,q⟩
 |cont=>obtain⟨az,H',I,q⟩:=h;exact⟨az,H',I.jO,q⟩
 |ret u=>obtain⟨v,az,H',I,r,q⟩:=h;exact⟨v,az,H',I.jO,r,q⟩
theorem me.jz{st:List Stmt}{t:TS}(h:me X.jz st t):me X st t:=λpins s σ H D I hw=>
 wpAny_mono (h pins s σ H D (I.oI _) hw) (λ_ _ q=>q.jO) λ_ _ z=>False.elim z
end
section
variable {X:Cx} {st:Stmt} {rest:List Stmt} {t u:TS} {e:Expr} {te:TE} {pos:Pos}
def QI:TS:=λD σ H=>D.nx σ H
def Yp(t u:TS):TS:=λD σ H=>t {D with nx:=u D} σ H
theorem Bf:me X [] QI:=λ_ _ σ H _ I h=>wpAny_execs_nil ⟨σ,H,I,h⟩
theorem gU(h1:PS X st t)(h2:me X rest u):me X (st::rest) (Yp t u):=by
 intro pins s σ H D I h;refine wpAny_execs_cons (thn (h1 pins s σ H {D with nx:=u D} I h) λf s1 q=>?_)
 cases f with
 |next=>
  obtain⟨az,H',I',q⟩:=q;exact h2 pins s1 az H' D I' q
 |ret v=>exact q
 |brk=>exact q
 |cont=>exact q
theorem qE(h1:PS X st t):me X [st] t:=by
 intro pins s σ H D I h;refine wpAny_execs_cons (thn (h1 pins s σ H D I h) λf s1 q=>?_);cases f with
 |next=>exact wpAny_execs_nil q
 |ret v=>exact q
 |brk=>exact q
 |cont=>exact q
theorem Inv.quiet{pins:List (Addr×Obj)}{σ:St}{H:Hp}{s:Shared}(I:Inv X pins σ H s):interactive X.env=false:=by simp[interactive,I.ok.kind]
def QG(te:TE):TS:=λD σ H=>te σ H λ_ H1=>D.nx σ H1
theorem kG(he:PE X e te)(hs:swapsWith e none pos.line X.env=pure false:=by rfl):PS X (.Expr e pos) (QG te):=by
 intro pins s σ H D I h;exact wpAny_Expr_any (thn (he pins s σ H _ I h) λv s1 ⟨x,H1,I1,r1,q1⟩=>⟨σ,H1,I1,q1⟩) I.quiet hs
def Yo(te:TE):TS:=λD σ H=>te σ H D.rt
theorem qC(he:PE X e te):PS X (.Return (some e) pos) (Yo te):=by
 intro pins s σ H D I h;exact wpAny_Return_some (thn (he pins s σ H _ I h) λv s1 ⟨x,H1,I1,r1,q1⟩=>⟨x,σ,H1,I1,r1,q1⟩)
def Yk(c:TT)(t u:TS):TS:=λD σ H=>c σ H λb H1=>if b=true then t D σ H1 else u D σ H1
theorem Jc{c:Expr}{a b:List Stmt}{tc:TT}(hc:PT X c tc)(ha:me X a t)(hb:me X b u):PS X (.If c a b pos) (Yk tc t u):=by
 intro pins s σ H D I h;refine wpAny_If (thn (hc pins s σ H _ I h) λd s1 ⟨H1,I1,q1⟩=>?_);cases d with
 |true=>exact ha pins s1 σ H1 D I1 q1
 |false=>exact hb pins s1 σ H1 D I1 q1
def Mo:TS:=λ_ _ _=>False
theorem FQ:PS X st Mo:=λ_ _ _ _ _ _ h=>h.elim
end
abbrev TG:=V->St->Hp->(St->Hp->Prop)->Prop
abbrev wB:=List V->St->Hp->(St->Hp->Prop)->Prop
def PG(X:Cx)(target:Expr)(t:TG):Prop:=
 ∀(pins:List (Addr×Obj))(s:Shared)(σ:St)(H:Hp)(v:V)(u:Value)(Q:St->Hp->Prop),Inv X pins σ H s->RelV v u->t v σ H Q->
  wpAny (model X.prog X.w) X.A (assign target X.env u) (λ_ s'=>∃az H',Inv X pins az H' s'/\Q az H') X.xe s
def yJ(X:Cx)(ts:List Expr)(t:wB):Prop:=
 ∀(pins:List (Addr×Obj))(s:Shared)(σ:St)(H:Hp)(vs:List V)(us:List Value)(Q:St->Hp->Prop),Inv X pins σ H s->Vals vs us->t vs σ H Q->
  wpAny (model X.prog X.w) X.A (assignInOrder ((assignEach ts X.env).map (·.2)) us) (λ_ s'=>∃az H',Inv X pins az H' s'/\Q az H') X.xe s
abbrev zV:=V->V->V->Hp->(Hp->Prop)->Prop
def Gu(X:Cx)(t:zV):Prop:=
 ∀(pins:List (Addr×Obj))(s:Shared)(σ:St)(H:Hp)(o i v:V)(ov iv u:Value)(Q:Hp->Prop),Inv X pins σ H s->RelV o ov->RelV i iv->RelV v u->t o i v H Q->
  wpAny (model X.prog X.w) X.A (setItem ov iv u) (λ_ s'=>∃H',Inv X pins σ H' s'/\Q H') X.xe s
abbrev Kg:=V->V->Hp->VK->Prop
def N6(X:Cx)(op:Operator)(t:Kg):Prop:=
 ∀(pins:List (Addr×Obj))(s:Shared)(σ:St)(H:Hp)(x y:V)(v u:Value)(Q:VK),Inv X pins σ H s->RelV x v->RelV y u->t x y H Q->
  wpAny (model X.prog X.w) X.A (inplaceOp op v u) (EP X pins σ Q) X.xe s
section
variable {X:Cx} {pos:Pos}
def Hq(i:Nat):TG:=λv σ H Q=>Q (σ.set i (some v)) H
theorem Bc{i:Nat}{x:Str}(hN:X.N.Nodup)(hi:X.N[i]? =some x)(hx:Loc X.env.scope x)(hf:X.fn x=true\/X.env.scope.names.lookup x=some .local:=by first|exact .inl rfl|exact .inr rfl|assumption):PG X (.Name x pos) (Hq i):=by
 intro pins s σ H v u Q I r h;exact wpAny_assign_Name (i7 I hN hi hx r (λs' I'=>⟨_,H,I',h⟩) hf)
def TV:wB:=λvs σ H Q=>vs= []/\Q σ H
def Pc(t:TG)(u:wB):wB:=λvs σ H Q=>∃v r,vs=v::r/\t v σ H λaz H'=>u r az H' Q
theorem Bd:yJ X [] TV:=by
 intro pins s σ H vs us Q I r h;obtain⟨e,h⟩:=h;subst e;cases r;exact assignInOrder_nil ⟨σ,H,I,h⟩
theorem yb{e:Expr}{es:List Expr}{t:TG}{u:wB}(h1:PG X e t)(h2:yJ X es u)
  (hs:(assignEach (e::es) X.env).map (·.2)=assign e X.env::(assignEach es X.env).map (·.2):=by rfl):yJ X (e::es) (Pc t u):=by
 intro pins s σ H vs us Q I r h;obtain⟨v,vr,e1,h⟩:=h;subst e1;cases r with
 |cons r rr=>
  rw[hs];refine assignInOrder_cons (thn (h1 pins s σ H _ _ _ I r h) λ_ s1 bc=>?_);rfl';obtain⟨DP,H1,I1,q1⟩:=bc;ac_rfl;exact h2 pins s1 DP H1 _ _ Q I1 rr q1
def TY(K:PySem.W.Frag)(n:Nat)(t:wB):TG:=λv σ H Q=>∃a xs,v= .ref a/\gq K H a xs/\xs.length=n/\t xs σ H Q
theorem Ew{es:List Expr}{k:Nat}{t:wB}{n:Nat}(hc:X.calm=true)(h:yJ X es t)
  (hn:(assignEach es X.env).length=n:=by rfl) (kz:(assignEach es X.env).findIdx? (·.1)=none:=by rfl):PG X (.Tuple es k pos) (TY X.K n t):=by
 intro pins s σ H v u Q I r hw;rfl';obtain⟨a,xs,e1,hq,hl,hw⟩:=hw;subst e1;subst r;obtain⟨its,rv,ht,hz⟩:=I.tuple hq;ac_rfl;refine assign_Tuple_tuple (I.ok.hd hc) ht (by simp[hn,<-hl,rv.length]) kz λh' hx=>?_
 have I1:Inv X pins σ H {s with heap:=h'}:=I.kept (t':=s.toks) λb o e=>hx b o (dD (Heap.lt_size e)) e
 exact h pins _ σ H xs _ Q I1 (rv) hw
def TX(to ti:TE)(t:zV):TG:=λv σ H Q=>to σ H λo H1=>ti σ H1 λi H2=>t o i v H2 λH3=>Q σ H3
theorem qA{o i:Expr}{to ti:TE}{t:zV}(ho:PE X o to)(hi:PE X i ti)(hs:Gu X t)
  (ha:∀v,assign (.Subscript o i pos) X.env v=(do
   let ov <-holding [v] (eval o X.env)
   let iv <-holding [v,ov] (eval i X.env)
   standAt pos
   holding [v,ov,iv] (setItem ov iv v)
   release [v,ov,iv] []):=by intro _;rfl):PG X (.Subscript o i pos) (TX to ti t):=by
 intro pins s σ H v u Q I r h;rw[ha];refine wpAny_bind (wpAny_holding (thn (ho pins s σ H _ I h) λov s1 bc=>?_));rfl';obtain⟨x,H1,I1,r1,q1⟩:=bc;ac_rfl;refine wpAny_bind (wpAny_holding (thn (hi pins s1 σ H1 _ I1 q1) λiv s2 bc=>?_));rfl';obtain⟨y,H2,I2,r2,q2⟩:=bc;ac_rfl;refine wpAny_bind (wpAny_standAt (wpAny_bind (wpAny_holding (thn (hs pins s2 σ H2 x y v ov iv u _ I2 r1 r2 r q2) λ_ s3 bc=>?_))));rfl';obtain⟨H3,I3,q3⟩:=bc;ac_rfl;exact wpAny_release ⟨σ,H3,I3,q3⟩
def NS(te:TE)(g:TG):TS:=λD σ H=>te σ H λx H1=>g x σ H1 D.nx
theorem nY{tg e:Expr}{te:TE}{g:TG}(he:PE X e te)(hg:PG X tg g)(hs:swapsWithSole [tg] e pos.line X.env=pure false:=by rfl)(hw:swappedStores [tg] e X.env=pure none:=by rfl)
  (h1:(assignEach [tg] X.env).map (·.2)= [assign tg X.env]:=by rfl):PS X (.Assign [tg] e pos) (NS te g):=by
 intro pins s σ H D I h;refine wpAny_Assign_stores (thn (he pins s σ H _ I h) λv s1 ⟨x,H1,I1,r1,q1⟩=>?_) hs hw;rw[h1];exact thn (hg pins s1 σ H1 x v _ I1 r1 q1) λ_ s2 q=>q
theorem lB{i:Nat}{x:Str}{e:Expr}{te:TE}{pos':Pos}(hN:X.N.Nodup)(hi:X.N[i]? =some x)(hx:Loc X.env.scope x)(he:PE X e te)(hs:swapsWith e (some (.Name x pos')) pos.line X.env=pure false:=by rfl)(hf:X.fn x=true\/X.env.scope.names.lookup x=some .local:=by first|exact .inl rfl|exact .inr rfl|assumption):
  PS X (.Assign [.Name x pos'] e pos) (NS te (Hq i)):=by
 intro pins s σ H D I h;refine wpAny_Assign_Name (thn (he pins s σ H _ I h) λv s1 ⟨y,H1,I1,r1,q1⟩=>?_) hs;exact i7 I1 hN hi hx r1 (λs2 I2=>⟨_,H1,I2,q1⟩) hf
def Yn(i j:Nat)(ta:TA):TS:=λD σ H=>ta σ H λvs H1=>∃v w,vs= [v,w]/\D.nx ((σ.set i (some v)).set j (some w)) H1
theorem LX{i j:Nat}{x y:Str}{a b:Expr}{ta:TA}{px py pt:Pos}{kt k2 C7}(hc:X.calm=true)(hN:X.N.Nodup)(hi:X.N[i]? =some x)(hj:X.N[j]? =some y)(KU:i≠j)
  (hx:X.env.scope.names.lookup x=some .local) (hy:X.env.scope.names.lookup y=some .local) (ha:PA X [a,b] ta)
  (hw:swappedStores [.Tuple [.Name x px, .Name y py] kt pt] (.Tuple [a,b] k2 C7) X.env=pure (some [x,y]))
  (hs:swapsWithSole [.Tuple [.Name x px, .Name y py] kt pt] (.Tuple [a,b] k2 C7) pos.line X.env=pure false:=by rfl):
  PS X (.Assign [.Tuple [.Name x px, .Name y py] kt pt] (.Tuple [a,b] k2 C7) pos) (Yn i j ta):=by
 intro pins s σ H D I h;rw[exec_Assign_arm];refine wpAny_bind (wpAny_standAt ?_);rw[hs];refine wpAny_bind (wpAny_pure ?_);rw[if_neg (by decide)]
 refine wpAny_bind (Tuple_ (thn (ha _ pins s σ H _ I h) λus s1 bc=>?_));obtain⟨vs,H1,I1,r1,q1⟩:=bc;obtain⟨v,w,e1,q1⟩:=q1;subst e1
 obtain⟨u1,u2,rfl,rv,vO⟩:∃u1 u2,us= [u1,u2]/\RelV v u1/\RelV w u2:=by
  cases r1 with
  |cons p q=>
   cases q with
   |cons p' q'=>
    cases q';exact⟨_,_,rfl,p,p'⟩
 refine wpAny_newObj_type ?_ (by show 2<=sizeLine;decide)
 have I2:Inv X pins σ H1 {s1 with heap:=s1.heap.push {cls:= .type "tuple",data:= .seq [u1,u2].toArray}}:=I1.kept (t':=s1.toks) λb o e=>Heap.get?_push_of_some _ e
 rw[hw];refine wpAny_bind (wpAny_pure ?_);show wpAny (model X.prog X.w) X.A (do rule "assign.swapped-stores";let items <-unpackItems (.ref s1.heap.objs.size) 2 none;assignInOrder [λv=>bindName X.env y v,λv=>bindName X.env x v] items.reverse;pure Flow.next) _ _ _
 refine wpAny_bind (wpAny_rule (wpAny_bind (unpackItems_tuple (items:= #[u1,u2]) (I.ok.hd hc) (IsTup.new s1.heap _) λh' qm=>?_)));have I3:=I2.kept (h':=h') (t':=s1.toks) λb o e=>qm b o (dD (Heap.lt_size e)) e;show wpAny _ _ (assignInOrder [λv=>bindName X.env y v,λv=>bindName X.env x v] [u2,u1]>>=λ_=>pure Flow.next) _ _ _;refine wpAny_bind (assignInOrder_cons (wpAny_bindName (i7 I3 hN hj (.inl hy) vO (λs2 I4=>?_) (.inr hy))));refine assignInOrder_cons (wpAny_bindName (i7 I4 hN hi (.inl hx) rv (λs3 I5=>assignInOrder_nil (wpAny_pure ?_)) (.inr hx)));rw[List.set_comm _ _ (Ne.symm KU)] at I5;exact⟨_,H1,I5,q1⟩
def QD(to ti te:TE)(EG:V->V->Hp->VK->Prop)(Mr:Kg)(EI:zV):TS:=λD σ H=>to σ H λo H1=>ti σ H1 λi H2=>EG o i H2 λx H3=>te σ H3 λy H4=>Mr x y H4 λz H5=>EI o i z H5 λH6=>D.nx σ H6
def MD(X:Cx)(t:V->V->Hp->VK->Prop):Prop:=
 ∀(pins:List (Addr×Obj))(s:Shared)(σ:St)(H:Hp)(o i:V)(ov iv:Value)(Q:VK),Inv X pins σ H s->RelV o ov->RelV i iv->t o i H Q->
  wpAny (model X.prog X.w) X.A (getItem ov iv) (EP X pins σ Q) X.xe s
theorem Jb{o i e:Expr}{to ti te:TE}{EG:V->V->Hp->VK->Prop}{Mr:Kg}{EI:zV}{op:Operator}{JU:Pos}(ho:PE X o to)(hi:PE X i ti)(hg:MD X EG)(he:PE X e te)(hp:N6 X op Mr)(hs:Gu X EI)
  (ha:∀ov iv new,augStore i ov iv new=(do holding [new,ov,iv] (setItem ov iv new);release [new,ov,iv] [];pure .next):=by intros;rfl):PS X (.AugAssign (.Subscript o i JU) op e pos) (QD to ti te EG Mr EI):=by
 intro pins s σ H D I h;refine wpAny_AugAssign_SubscriptAny (thn (ho pins s σ H _ I h) λov s1 ⟨x1,H1,I1,r1,q1⟩=>?_) ha;refine thn (hi pins s1 σ H1 _ I1 q1) λiv s2 bc=>?_;rfl';obtain⟨x2,H2,I2,r2,q2⟩:=bc;ac_rfl;refine thn (hg pins s2 σ H2 x1 x2 ov iv _ I2 r1 r2 q2) λold s3 bc=>?_;rfl';obtain⟨x3,H3,I3,r3,q3⟩:=bc;ac_rfl;refine thn (he pins s3 σ H3 _ I3 q3) λv s4 bc=>?_;rfl';obtain⟨x4,H4,I4,r4,q4⟩:=bc;ac_rfl;refine thn (hp pins s4 σ H4 x3 x4 old v _ I4 r3 r4 q4) λnew s5 bc=>?_;rfl';obtain⟨x5,H5,I5,r5,q5⟩:=bc;ac_rfl;exact thn (hs pins s5 σ H5 x1 x2 x5 ov iv new _ I5 r1 r2 r5 q5) λ_ s6 ⟨H6,I6,q6⟩=>⟨σ,H6,I6,q6⟩
def U2(f:Int->Int->Int):Kg:=λx y H Q=>∃i j,x= .int i/\y= .int j/\Q (.int (f i j)) H
theorem Eg:N6 X .Add (U2 λi j=>i+j):=by
 intro pins s σ H x y v u Q I r1 r2 h;obtain⟨i,j,e1,e2,q⟩:=h;subst e1;subst e2;obtain⟨t,rfl⟩:=r1;obtain⟨t',rfl⟩:=r2;exact iadd_int ⟨.int _,H,I.tok _,⟨_,rfl⟩,q⟩
end
section
variable {X:Cx} {pos:Pos}
def Mp(c:TT)(tb:TS):TS:=λD σ H=>∃W:Nat->St->Hp->Prop,(∃m,W m σ H)/\∀m σ H,W m σ H->
 c σ H λb H1=>if b=true then ∃N:St->Hp->Prop,(∀az H',N az H'->∃m',m'<m/\W m' az H')/\tb {D with nx:=N,ct:=N,bk:=D.nx} σ H1 else D.nx σ H1
theorem FR{c:Expr}{body:List Stmt}{tc:TT}{tb:TS}(hp:PassesOwn (model X.prog X.w) X.A X.env X.xe)(hc:PT X c tc)(hb:me X body tb):PS X (.While c body [] pos) (Mp tc tb):=by
 intro pins s σ H D I h;obtain⟨W,⟨m0,w0⟩,turn⟩:=h;refine wpAny_While (codeAny_whileLoop (λn s'=>∃az H',Inv X pins az H' s'/\W n az H') ?_ m0 ⟨σ,H,I,w0⟩);intro n s1 QT;rfl';obtain⟨DP,H1,I1,w1⟩:=QT;ac_rfl;refine wpAny_passesOwn hp (thn (hc pins s1 DP H1 _ I1 (turn n DP H1 w1)) λb s2 bc=>?_);rfl';obtain⟨H2,I2,q2⟩:=bc;ac_rfl;cases b with
 |true=>
  rfl';obtain⟨N,hN,q2⟩:=q2;ac_rfl;rw[if_pos rfl];refine wpAny_passesOwn hp (thn (hb pins s2 DP H2 _ I2 q2) λf s3 q3=>?_);cases f with
  |next=>
   obtain⟨tX,H3,I3,n3⟩:=q3;obtain⟨m',hm,w3⟩:=hN tX H3 n3;exact⟨m',hm,tX,H3,I3,w3⟩
  |cont=>
   obtain⟨tX,H3,I3,n3⟩:=q3;obtain⟨m',hm,w3⟩:=hN tX H3 n3;exact⟨m',hm,tX,H3,I3,w3⟩
  |brk=>exact q3
  |ret v=>exact q3
 |false=>
  rw[if_neg cK];exact wpAny_execs_nil ⟨DP,H2,I2,q2⟩
end
structure It where
 go:Nat->Hp->Prop
 yld:Nat->Hp->V->Hp->Prop
 stop:Nat->Hp->Prop
def fj(X:Cx)(pins:List (Addr×Obj))(H:Hp)(b:Addr):Prop:=
 H b=none/\b≠X.env.locals/\b∉X.fs/\(b∈X.ex\/X.s₀.heap.objs.size<=b)/\(∀x c,X.env.cells.lookup x=some c->c≠b)/\∀p∈X.pn++pins,p.1≠b
theorem Inv.AA{X:Cx}{pins:List (Addr×Obj)}{σ:St}{H H':Hp}{s:Shared}{b:Addr}(I:Inv X pins σ H s)(hb:s.heap.objs.size<=b)(hn:H' b=none):fj X pins H' b:=by
 refine⟨hn,Nat.ne_of_gt (gK I.lt hb),I.Ip hb, .inr (jx I.sz hb),λx c e z=>?_,λp hp z=>?_⟩
 ·obtain⟨v,q⟩:=I.cell x c e
  exact absurd (gK q.lt (by rw[z];exact hb)) (fz _)
 ·exact absurd (gK (Heap.lt_size (I.pin p hp).1) (by rw[z];exact hb)) (fz _)
structure Turn (P:Program) (w:World) (K:PySem.W.Frag) (tg:Expr) (J:It) (fp:List Addr) (it:Addr) (tn:Nat->Heap->Prop):Prop where
 mem:it∈fp
 obj:∀i h,tn i h->∀b∈fp,∃o,h.get? b=some o/\∀v,o.data≠ .cell v
 keep:∀i h h',tn i h->(∀b∈fp,∀o,h.get? b=some o->h'.get? b=some o)->tn i h'
 item:∀(X:Cx),X.prog=P->X.w=w->X.K=K->X.calm=true->∀(i:Nat)(pins:List (Addr×Obj))(s:Shared)(σ:St)(H:Hp)(E:Value->Shared->Prop),Inv X pins σ H s->(∀b∈fp,fj X pins H b)->tn i s.heap->J.go i H->
  wpAny (model P w) X.A (pyNext (.ref it)) (λr s1=>∃u,r=some u/\
   wpAny (model P w) X.A (letOwnedTupleGo tg (.ref it) u) (λ_ s2=>∃x H',Inv X pins σ H' s2/\RelV x u/\J.yld i H x H'/\tn (i+1) s2.heap/\∀b∈fp,H' b=none) E s1) E s
 done:∀(X:Cx),X.prog=P->X.w=w->X.K=K->X.calm=true->∀(i:Nat)(pins:List (Addr×Obj))(s:Shared)(σ:St)(H:Hp)(E:Value->Shared->Prop),Inv X pins σ H s->(∀b∈fp,fj X pins H b)->tn i s.heap->J.stop i H->
  wpAny (model P w) X.A (pyNext (.ref it)) (λr s1=>r=none/\Inv X pins σ H s1) E s
 self:∀(A:Around)(i:Nat)(s:Shared)(Q:Value->Shared->Prop)(E:Value->Shared->Prop),tn i s.heap->Q (.ref it) s->wpAny (model P w) A (pyIter (.ref it)) Q E s
abbrev TI:=St->Hp->(It->Hp->Prop)->Prop
def Q7(X:Cx)(pins:List (Addr×Obj))(σ:St)(tg:Expr)(R:It->Hp->Prop)(Cu:Value)(s2:Shared):Prop:=
 ∃(it:Addr)(fp:List Addr)(tn:Nat->Heap->Prop)(J:It)(H':Hp),Cu= .ref it/\Inv X pins σ H' s2/\Turn X.prog X.w X.K tg J fp it tn/\tn 0 s2.heap/\(∀b∈fp,fj X pins H' b)/\R J H'
def PI(X:Cx)(tg iter:Expr)(wi:TI):Prop:=
 ∀(pins:List (Addr×Obj))(s:Shared)(σ:St)(H:Hp)(R:It->Hp->Prop),Inv X pins σ H s->wi σ H R->
  wpAny (model X.prog X.w) X.A (eval iter X.env) (λv s1=>wpAny (model X.prog X.w) X.A (pyIter v) (Q7 X pins σ tg R) X.xe s1) X.xe s
theorem B9{M:Model}{A:Around}{E:Value->Shared->Prop}{s:Shared}{tg:Expr}{it:Addr}{u:Value}{o:Obj}{n:String}{vs:Array Value}{Q:Unit->Shared->Prop}(ho:s.heap.get? it=some o)(hc:o.cls= .type n)(hd:o.data= .fields vs)
  (hn: ["enumerate","zip","dict_itemiterator","dict_reverseitemiterator","odict_iterator","itertools.zip_longest","itertools.pairwise"].contains n=false) (hQ:Q () s):wpAny M A (letOwnedTupleGo tg (.ref it) u) Q E s:=by
 unfold letOwnedTupleGo
 cases tg<;>first
  |exact wpAny_pure hQ
  | (cases u<;>first
    |exact wpAny_pure hQ
    | (refine wpAny_bind (wpAny_load ho ?_)
       rw[hc,hd];show wpAny M A (if (["enumerate","zip","dict_itemiterator","dict_reverseitemiterator","odict_iterator","itertools.zip_longest","itertools.pairwise"].contains n&&vs[0]? ==some (rawInt _))=true then _ else _) Q E s;rw[if_neg (by intro h;rw[hn,v9] at h;cases h)]
       exact wpAny_pure hQ))
def N0(K:PySem.W.Frag)(a:Addr):It:=
 ⟨λi H=>∃xs x,bU K H a xs/\xs[i]? =some x,λi H x H'=>H'=H/\∀xs,bU K H a xs->xs[i]? =some x,λi H=>∃xs,bU K H a xs/\xs.length<=i⟩
def Gp(lo:Int)(n:Nat):It:=⟨λi _=>i<n,λi H x H'=>H'=H/\x= .int (lo+i),λi _=>n<=i⟩
theorem Dw{P:Program}{w:World}{K:PySem.W.Frag}{tg:Expr}(a it:Addr):Turn P w K tg (N0 K a) [it] it (λi h=>h.IsListIter it a i) where
 mem:=by simp
 obj:=λi h st b hb=>by
  have e:b=it:=by simpa using hb
  subst e;obtain⟨o,e,c,d⟩:=st;exact⟨o,e,λv z=>by rw[d] at z;cases z⟩
 keep:=λi h h' st k=>st.at λo e=>k it (by simp) o e
 item:=by
  intro X hP hw hK hc i pins s σ H E I hf st hg;rfl';subst hP hw hK;obtain⟨xs,x,hq,hx⟩:=hg;obtain⟨its,rv,p,hz⟩:=I.list hq;obtain⟨u,hu,ru⟩:=rv.get hx;obtain⟨f0,f1,f2,f3,f4,f5⟩:=hf it (by simp)
  ac_rfl;refine wpAny_pyNext_list_item st p.isList (x:=u) (by simpa using hu) λh' zI sb=>?_
  have I1:Inv X pins σ H {s with heap:=h'}:=I.turned (t':=s.toks) (λb o hb e=>(sb.2 b hb).trans e) f0 f1 f3 f4 f5
  obtain⟨o,e,c,d⟩:=id zI;exact⟨u,rfl,B9 (s:={s with heap:=h'}) e c d (by decide) ⟨x,H,I1,ru,⟨rfl,λys hy=>by rw[I.rP hy hq];exact hx⟩,zI,λb hb=>(hf b hb).1⟩⟩
 done:=by
  intro X hP hw hK hc i pins s σ H E I hf st hg;rfl';subst hP hw hK;obtain⟨xs,hq,hx⟩:=hg;obtain⟨its,rv,p,hz⟩:=I.list hq;obtain⟨f0,f1,f2,f3,f4,f5⟩:=hf it (by simp)
  have hl:=rv.length;ac_rfl;exact wpAny_pyNext_list_end (I.ok.hd hc) st p.isList (by simp;omega) λh' eb=>⟨rfl,I.turned (t':=s.toks) (λb o hb e=>eb b o hb e) f0 f1 f3 f4 f5⟩
 self:=λ_ _ _ _ _ st h=>wpAny_pyIter_listiter st h
theorem BC{P:Program}{w:World}{K:PySem.W.Frag}{tg:Expr}(it:Addr)(lo:Int)(n:Nat):Turn P w K tg (Gp lo n) [it] it (λi h=>IsRangeIter h it (lo+(i:Nat)*1) ((n:Int)-(i:Nat)) 1) where
 mem:=by simp
 obj:=λi h st b hb=>by
  have e:b=it:=by simpa using hb
  subst e
  exact⟨_,st,λv z=>by
   have z':Data.fields _=Data.cell v:=z;cases z'⟩
 keep:=λi h h' st k=>k it (by simp) _ st
 item:=by
  intro X hP hw hK hc i pins s σ H E I hf st hg;subst hP hw hK;rfl';obtain⟨f0,f1,f2,f3,f4,f5⟩:=hf it (by simp)
  ac_rfl;have W:=Walks.range (prog:=X.prog) (w:=X.w) (I.ok.hd hc) it lo 1 n;refine W.item i s _ _ hg st λv h' tk hv zI kk=>?_;obtain⟨t,rfl⟩:=hv;have I1:Inv X pins σ H {s with heap:=h',toks:=tk}:=I.turned (λb o hb e=>kk b o (by simpa using hb) e) f0 f1 f3 f4 f5
  refine⟨_,rfl,B9 (s:={s with heap:=h',toks:=tk}) (n:="range_iterator") zI rfl rfl (by decide) ⟨.int (lo+i),H,I1,⟨t,?_⟩,⟨rfl,rfl⟩,zI,λb hb=>(hf b hb).1⟩⟩
  rw[Int.mul_one]
 done:=by
  intro X hP hw hK hc i pins s σ H E I hf st hg;subst hP hw hK;rfl';obtain⟨f0,f1,f2,f3,f4,f5⟩:=hf it (by simp)
  ac_rfl;exact wpAny_pyNext_range_end (I.ok.hd hc) st (by have:n<=i:=hg;omega) λh' eb=>⟨rfl,I.turned (t':=s.toks) (λb o hb e=>eb b o hb e) f0 f1 f3 f4 f5⟩
 self:=λ_ _ _ _ _ st h=>wpAny_pyIter_rangeiter st h
section
variable {X:Cx} {tg:Expr}
def PZ(K:PySem.W.Frag)(tl:TE):TI:=λσ H R=>tl σ H λx H1=>∃a,x= .ref a/\(∃xs,bU K H1 a xs)/\R (N0 K a) H1
theorem IW{l:Expr}{tl:TE}(hl:PE X l tl):PI X tg l (PZ X.K tl):=by
 intro pins s σ H R I h;refine thn (hl pins s σ H _ I h) λv s1 bc=>?_;rfl';obtain⟨x,H1,I1,r1,q1⟩:=bc;ac_rfl;rfl';obtain⟨a,e,⟨xs,hq⟩,q⟩:=q1;subst e;subst r1;obtain⟨its,rv,p,hz⟩:=I1.list hq;ac_rfl;refine wpAny_pyIter_list p.isList ?_;refine⟨s1.heap.objs.size,[s1.heap.objs.size],_,_,H1,rfl,I1.kept (t':=s1.toks) λb o e=>Heap.get?_push_of_some _ e,Dw a _,⟨_,Heap.get?_push_size _ rfl,rfl,rfl⟩,λb hb=>?_,q⟩;have e:b=s1.heap.objs.size:=by simpa using hb
 subst e;exact I1.AA (bC _) (I1.hok.fresh (bC _))
theorem yf{pins:List (Addr×Obj)}{σ:St}{H:Hp}{s:Shared}{R:It->Hp->Prop}{E:Value->Shared->Prop}{lo hi:Int}{t u v:Tok}{tk:Nat}(I:Inv X pins σ H s)(h1: -(2^62)<=lo)(h2:lo<2^62)(h3: -(2^62)<=hi)(h4:hi<2^62)
  (q:R (Gp lo (hi-lo).toNat) H):wpAny (model X.prog X.w) X.A (pyIter (.ref s.heap.objs.size)) (Q7 X pins σ tg R) E {s with heap:=s.heap.push {cls:= .type "range",data:= .fields #[.int lo t, .int hi u, .int 1 v]},toks:=tk}:=by
 refine wpAny_pyIter_range (IsRange.new ..) (small_one h1 h2 h3 h4) ?_;have I1:Inv X pins σ H {s with heap:=s.heap.push {cls:= .type "range",data:= .fields #[.int lo t, .int hi u, .int 1 v]},toks:=tk}:=I.kept λb o e=>Heap.get?_push_of_some _ e
 refine⟨(s.heap.push {cls:= .type "range",data:= .fields #[.int lo t, .int hi u, .int 1 v]}).objs.size,[(s.heap.push {cls:= .type "range",data:= .fields #[.int lo t, .int hi u, .int 1 v]}).objs.size],_,_,H,rfl,
  I1.kept (t':=tk) λb o e=>Heap.get?_push_of_some _ e,BC _ lo (hi-lo).toNat,?_,λb hb=>?_,q⟩
 ·have e1:lo+((0:Nat):Int)*1=lo:=by simp
  have e2:(((hi-lo).toNat:Nat):Int)-((0:Nat):Int)=Builtin.Range.rangeSize lo hi 1:=by rw[rangeSize_one];split<;>omega
  show IsRangeIter _ _ (lo+((0:Nat):Int)*1) ((((hi-lo).toNat:Nat):Int)-((0:Nat):Int)) 1;rw[e1,e2];exact Heap.get?_push_size _ rfl
 ·have e:b=(s.heap.push {cls:= .type "range",data:= .fields #[.int lo t, .int hi u, .int 1 v]}).objs.size:=by simpa using hb
  subst e;exact I1.AA (bC _) (I1.hok.fresh (bC _))
def P0(ta:TA):TI:=λσ H R=>ta σ H λvs H1=>∃j:Int,vs= [.int j]/\-(2^62)<=j/\j<2^62/\R (Gp 0 j.toNat) H1
def P1(ta:TA):TI:=λσ H R=>ta σ H λvs H1=>∃i j:Int,vs= [.int i, .int j]/\(-(2^62)<=i/\i<2^62/\-(2^62)<=j/\j<2^62)/\R (Gp i (j-i).toNat) H1
theorem vJ{a:Expr}{ta:TA}{p pos:Pos}(hg:Gl X "range")(hm:X.mg "range"=none)(ha:PA X [a] ta)(hs:starEach [a] X.env= [(false,eval a X.env)]:=by rfl):PI X tg (.Call (.Name "range" p) [a] [] pos) (P0 ta):=by
 intro pins s σ H R I h;refine Call_ (gz I hg hm boot_range (PyProof.Rows.callWith_type1 (thn (ha pos pins s σ H _ I h) λus s1 ⟨vs,H1,I1,r1,q1⟩=>?_) hs rfl));obtain⟨j,e,q1,q2,q⟩:=q1;subst e;cases r1 with
 |cons r rr=>
  cases rr;obtain⟨t,rfl⟩:=r;exact call_range_1 (yf I1 (by omega) (by omega) q1 q2 (by simpa using q))
theorem C3{a b:Expr}{ta:TA}{p pos:Pos}(hg:Gl X "range")(hm:X.mg "range"=none)(ha:PA X [a,b] ta)(hs:starEach [a,b] X.env= [(false,eval a X.env),(false,eval b X.env)]:=by rfl)(iN:starEach [b] X.env= [(false,eval b X.env)]:=by rfl):
  PI X tg (.Call (.Name "range" p) [a,b] [] pos) (P1 ta):=by
 intro pins s σ H R I h;refine Call_ (gz I hg hm boot_range (PyProof.Rows.callWith_type1 (thn (ha pos pins s σ H _ I h) λus s1 ⟨vs,H1,I1,r1,q1⟩=>?_) (by rw[hs,iN]) (by rw[iN];rfl)))
 obtain⟨i,j,e,⟨q1,q2,q3,q4⟩,q⟩:=q1;subst e;cases r1 with
 |cons r rr=>
  cases rr with
  |cons r' rr=>
   cases rr;obtain⟨t,rfl⟩:=r;obtain⟨t',rfl⟩:=r';exact call_range_2 (yf I1 q1 q2 q3 q4 q)
def Yj(wi:TI)(g:TG)(tb:TS):TS:=λD σ H=>wi σ H λJ H1=>∃W:Nat->Nat->St->Hp->Prop,(∃m,W 0 m σ H1)/\∀i m σ H,W i m σ H->
 (J.stop i H/\D.nx σ H)\/(J.go i H/\∃N:St->Hp->Prop,(∀az H',N az H'->∃m',m'<m/\W (i+1) m' az H')/\∀x H',J.yld i H x H'->g x σ H' λfI H2=>tb {D with nx:=N,ct:=N,bk:=D.nx} fI H2)
def lA(fp:List Addr)(h:Heap):List (Addr×Obj):=fp.filterMap λb=>(h.get? b).map λo=>(b,o)
theorem eL{fp:List Addr}{h:Heap}{b:Addr}{o:Obj}(hb:b∈fp)(e:h.get? b=some o):(b,o)∈lA fp h:=zq93.mpr ⟨b,hb,by rw[e];rfl⟩
theorem CT{fp:List Addr}{h:Heap}{p:Addr×Obj}(hp:p∈lA fp h):p.1∈fp/\h.get? p.1=some p.2:=by
 obtain⟨b,hb,e⟩:=zq93.mp hp;cases q:h.get? b with
 |none=>rw[q] at e;cases e
 |some o=>
  rw[q] at e;have e':(b,o)=p:=Option.some.inj e;subst e';exact⟨hb,q⟩
theorem Inv.pinned{pins:List (Addr×Obj)}{σ:St}{H:Hp}{s:Shared}{fp:List Addr}(I:Inv X pins σ H s)(hf:∀b∈fp,fj X pins H b)(ho:∀b∈fp,∃o,s.heap.get? b=some o/\∀v,o.data≠ .cell v):Inv X (pins++lA fp s.heap) σ H s:=
 I.kE λp hp=>(fK.mp hp).elim (λz=>I.pin p (fN _ z)) λz=>by
  rfl';obtain⟨hb,e⟩:=CT z;obtain⟨f0,f1,f2,_⟩:=hf p.1 hb;obtain⟨o,e',d⟩:=ho p.1 hb;ac_rfl;rw[e] at e';cases e';exact⟨e,f0,f1,f2,d⟩
theorem Inv.i8{pins pl:List (Addr×Obj)}{σ:St}{H:Hp}{s:Shared}(I:Inv X (pins++pl) σ H s):Inv X pins σ H s:=I.kE λp hp=>I.pin p (fN _ (kM _ hp))
theorem Ex{iter:Expr}{body:List Stmt}{wi:TI}{g:TG}{tb:TS}{pos:Pos}(hp:PassesOwn (model X.prog X.w) X.A X.env X.xe)(hc:X.calm=true)(hi:PI X tg iter wi)(hg:PG X tg g)(hb:me X body tb)
  (hs:∀x,foldedSetIterable iter X.env x=pure x:=by intro _;rfl):PS X (.For tg iter body [] pos) (Yj wi g tb):=by
 intro pins s σ H D I h;refine wpAny_For (thn (hi pins s σ H _ I h) λv s1 h1=>thn h1 λCu s2 h2=>?_) hs;rfl';obtain⟨it,fp,tn,J,H2,e,I2,T,nB,f2,W,⟨m0,w0⟩,turn⟩:=h2;subst e;ac_rfl;have stat:∀{H':Hp},(∀b∈fp,H' b=none)->∀b∈fp,fj X pins H' b:=λhn b hb=>⟨hn b hb,(f2 b hb).2⟩;refine codeAny_forLoop_any (λn s'=>∃i az H',Inv X pins az H' s'/\tn i s'.heap/\(∀b∈fp,H' b=none)/\W i n az H') ?_ m0 ⟨0,σ,H2,I2,nB,λb hb=>(f2 b hb).1,w0⟩;intro n s3 QT;rfl';obtain⟨i,tX,H3,I3,Bw,TU,w3⟩:=QT;ac_rfl
 rcases turn i n tX H3 w3 with ⟨stop,qn⟩ | ⟨go,N,hN,step⟩
 ·refine wpAny_passesOwn hp (thn (T.done X rfl rfl rfl hc i pins s3 tX H3 X.xe I3 (stat TU) Bw stop) λr s4 bc=>?_)
  obtain⟨hr,I4⟩:=bc;subst hr;exact wpAny_execs_nil ⟨tX,H3,I4,qn⟩
 ·refine wpAny_passesOwn hp (thn (T.item X rfl rfl rfl hc i pins s3 tX H3 X.xe I3 (stat TU) Bw go) λr s4 bc=>?_)
  obtain⟨u,hr,h4⟩:=bc;subst hr;refine wpAny_passesOwn hp (thn h4 λ_ s5 bc=>?_);rfl';obtain⟨x,H5,I5,r5,y5,tU,wH⟩:=bc;ac_rfl;have Gm:=I5.pinned (stat wH) (T.obj _ _ tU);refine wpAny_passesOwn hp (thn (hg _ s5 tX H5 x u _ Gm r5 (step x H5 y5)) λ_ s6 bc=>?_);rfl';obtain⟨σ6,H6,I6,q6⟩:=bc;ac_rfl;refine wpAny_passesOwn hp (thn (hb _ s6 σ6 H6 _ I6 q6) λf s7 q7=>?_)
  have again:∀{rg:St}{H7:Hp},Inv X (pins++lA fp s5.heap) rg H7 s7->N rg H7->∃m,m<n/\∃i az H',Inv X pins az H' s7/\tn i s7.heap/\(∀b∈fp,H' b=none)/\W i m az H':=λ {rg H7} I7 n7=>by
   obtain⟨m',hm,w7⟩:=hN rg H7 n7;refine⟨m',hm,i+1,rg,H7,I7.i8,T.keep _ _ _ tU λb hb o e=>(I7.pin (b,o) (fN _ (fN _ (eL hb e)))).1,λb hb=>?_,w7⟩;obtain⟨o,e,d⟩:=T.obj _ _ tU b hb;exact(I7.pin (b,o) (fN _ (fN _ (eL hb e)))).2.1
  cases f with
  |next=>obtain⟨rg,H7,I7,n7⟩:=q7;exact again I7 n7
  |cont=>obtain⟨rg,H7,I7,n7⟩:=q7;exact again I7 n7
  |brk=>obtain⟨rg,H7,I7,q7⟩:=q7;exact⟨rg,H7,I7.i8,q7⟩
  |ret v=>obtain⟨x7,rg,H7,I7,r7,q7⟩:=q7;exact⟨x7,rg,H7,I7.i8,r7,q7⟩
end
abbrev R2:=V->V->Hp->VK->Prop
def OpR(X:Cx)(f:Value->Value->Sem Value)(r:R2):Prop:=
 ∀(pins:List (Addr×Obj))(s:Shared)(σ:St)(H:Hp)(x y:V)(v u:Value)(Q:VK),Inv X pins σ H s->RelV x v->RelV y u->r x y H Q->
  wpAny (model X.prog X.w) X.A (f v u) (EP X pins σ Q) X.xe s
def eM(X:Cx)(f:Value)(r:List V->Hp->VK->Prop):Prop:=
 ∀(pins:List (Addr×Obj))(s:Shared)(σ:St)(H:Hp)(xs:List V)(us:List Value)(Q:VK),Inv X pins σ H s->Vals xs us->r xs H Q->
  wpAny (model X.prog X.w) X.A (call f us) (EP X pins σ Q) X.xe s
def Ra(X:Cx)(r:V->Hp->(Bool->Hp->Prop)->Prop):Prop:=
 ∀(pins:List (Addr×Obj))(s:Shared)(σ:St)(H:Hp)(x:V)(v:Value)(Q:Bool->Hp->Prop),Inv X pins σ H s->RelV x v->r x H Q->
  wpAny (model X.prog X.w) X.A (truthy v) (TP X pins σ Q) X.xe s
def JR(r:R2)(ta tb:TE):TE:=λσ H Q=>ta σ H λx H1=>tb σ H1 λy H2=>r x y H2 Q
def rI(C:Int->Int->Prop)(g:Int->Int->V):R2:=λx y H Q=>∃i j,x= .int i/\y= .int j/\C i j/\Q (g i j) H
def wW(g:Int->Int->V):R2:=λx y H Q=>∃i j,x= .int i/\y= .int j/\Q (g i j) H
section
variable {X:Cx} {a b c:Expr} {ta tb tc:TE} {pos:Pos}
theorem GK(ha:PE X a ta)(hb:PE X b tb){pins:List (Addr×Obj)}{s:Shared}{σ:St}{H:Hp}{R:V->V->Hp->Prop}(I:Inv X pins σ H s)
  (h:ta σ H λx H1=>tb σ H1 λy H2=>R x y H2) {Q:Value->Shared->Prop} {f:Value->Value->Sem Value}
  (hf:∀v u s2 x y H2,Inv X pins σ H2 s2->RelV x v->RelV y u->R x y H2->wpAny (model X.prog X.w) X.A (f v u) Q X.xe s2):
  wpAny (model X.prog X.w) X.A (eval a X.env) (λv s₁=>wpAny (model X.prog X.w) X.A (eval b X.env) (λu EF=>wpAny (model X.prog X.w) X.A (f v u) Q X.xe EF) X.xe s₁) X.xe s:=by
 refine thn (ha pins s σ H _ I h) λv s1 ⟨x,H1,I1,r1,q1⟩=>?_;refine thn (hb pins s1 σ H1 _ I1 q1) λu s2 ⟨y,H2,I2,r2,q2⟩=>?_;exact hf v u s2 x y H2 I2 r1 r2 q2
theorem CZ{op:Operator}{r:R2}(ho:OpR X (binaryOp op) r)(ha:PE X a ta)(hb:PE X b tb):PE X (.BinOp a op b pos) (JR r ta tb):=by
 intro pins s σ H Q I h;exact wpAny_BinOp (GK ha hb I h λv u s2 x y H2 I2 rx ry q=>ho pins s2 σ H2 x y v u Q I2 rx ry q)
theorem Lu{f:Value->Value->Sem Value}{C:Int->Int->Prop}{g:Int->Int->Int}
  (rule:∀(i j:Int)(t u:Tok)(s:Shared)(Q:Value->Shared->Prop)(E:Value->Shared->Prop),C i j->Q (.int (g i j) s.toks) {s with toks:=s.toks+1}->wpAny (model X.prog X.w) X.A (f (.int i t) (.int j u)) Q E s):
  OpR X f (rI C λi j=> .int (g i j)):=by
 intro pins s σ H x y v u Q I rx ry h;obtain⟨i,j,rfl,rfl,hc,q⟩:=h;obtain⟨t,rfl⟩:=rx;obtain⟨t',rfl⟩:=ry;exact rule i j t t' s _ _ hc ⟨.int (g i j),H,I.tok _,⟨_,rfl⟩,q⟩
theorem IC{f:Value->Value->Sem Value}{g:Int->Int->Int}
  (rule:∀(i j:Int)(t u:Tok)(s:Shared)(Q:Value->Shared->Prop)(E:Value->Shared->Prop),Q (.int (g i j) s.toks) {s with toks:=s.toks+1}->wpAny (model X.prog X.w) X.A (f (.int i t) (.int j u)) Q E s):
  OpR X f (wW λi j=> .int (g i j)):=by
 intro pins s σ H x y v u Q I rx ry h;obtain⟨i,j,rfl,rfl,q⟩:=h;obtain⟨t,rfl⟩:=rx;obtain⟨t',rfl⟩:=ry;exact rule i j t t' s _ _ ⟨.int (g i j),H,I.tok _,⟨_,rfl⟩,q⟩
theorem IB{f:Value->Value->Sem Value}{g:Int->Int->Bool}
  (rule:∀(i j:Int)(t u:Tok)(s:Shared)(Q:Value->Shared->Prop)(E:Value->Shared->Prop),Q (.bool (g i j)) s->wpAny (model X.prog X.w) X.A (f (.int i t) (.int j u)) Q E s):
  OpR X f (wW λi j=> .bl (g i j)):=by
 intro pins s σ H x y v u Q I rx ry h;obtain⟨i,j,rfl,rfl,q⟩:=h;obtain⟨t,rfl⟩:=rx;obtain⟨t',rfl⟩:=ry;exact rule i j t t' s _ _ ⟨.bl (g i j),H,I,rfl,q⟩
def MB(i j:Int):Prop:=0<j/\j<1073741824
def MC(i j:Int):Prop:=0<=j/\j<=1000000/\i.natAbs<2^64
def DQ(i j:Int):Prop:=(-(2^64)<i/\i<2^64)\/(-(2^64)<j/\j<2^64)
theorem DQ.ok{i j:Int}(h:DQ i j):IntMulOk i j:=by
 rcases h with ⟨h1,h2⟩ | ⟨h1,h2⟩
 ·exact .of_left (intBits_le_64 h1 h2)
 ·exact .of_right (intBits_le_64 h1 h2)
theorem Lv:OpR X (binaryOp .Add) (wW λi j=> .int (i+j)):=IC λ_ _ _ _ _ _ _ q=>add_int q
theorem LF:OpR X (binaryOp .Sub) (wW λi j=> .int (i-j)):=IC λ_ _ _ _ _ _ _ q=>sub_int q
theorem LA:OpR X (binaryOp .Mult) (rI DQ λi j=> .int (i*j)):=Lu λ_ _ _ _ _ _ _ hc q=>mul_int q hc.ok
theorem IE:OpR X (binaryOp .FloorDiv) (rI MB λi j=> .int (i / j)):=Lu λi j _ _ _ _ _ hc q=>by
 have h1:(0:Int)<j:=hc.1;have h2:j<1073741824:=hc.2;exact floordiv_int (by omega) (by rw[Int.fdiv_eq_ediv_of_nonneg i (by omega)];exact q) (.inl (PyProof.noPylong_small (by omega)))
theorem Lz:OpR X (binaryOp .Mod) (rI (λ_ j=>0<j) λi j=> .int (i%j)):=Lu λi j _ _ _ _ _ hc q=>by
 have h1:(0:Int)<j:=hc;exact mod_int' (by omega) (by rw[Int.fmod_eq_emod_of_nonneg i (by omega)];exact q)
theorem LC:OpR X (binaryOp .Pow) (rI MC λi j=> .int (i^j.toNat)):=Lu λ_ _ _ _ _ _ _ hc q=>pow_int_small hc.1 hc.2.1 hc.2.2 q
theorem Lw:OpR X (binaryOp .BitAnd) (wW λi j=> .int (Builtin.bitAnd i j)):=IC λ_ _ _ _ _ _ _ q=>and_int q
end
section
variable {X:Cx} {a b c:Expr} {ta tb tc:TE} {pos:Pos}
theorem Ec{pins:List (Addr×Obj)}{σ:St}{H:Hp}{s:Shared}{Q:VK}{k k':Bool}(I:Inv X pins σ H s)(q:Q (.bl k) H)(e:k=k'):EP X pins σ Q (.bool k') s:=by
 subst e;exact⟨.bl k,H,I,rfl,q⟩
theorem Qh:OpR X (compareOp .Lt) (wW λi j=> .bl (decide (i<j))):=IB λ_ _ _ _ _ _ _ q=>lt_int q
theorem Qg:OpR X (compareOp .LtE) (wW λi j=> .bl (decide (i<=j))):=IB λ_ _ _ _ _ _ _ q=>le_int q
theorem Qf:OpR X (compareOp .Gt) (wW λi j=> .bl (decide (j<i))):=IB λ_ _ _ _ _ _ _ q=>gt_int q
theorem Ly:OpR X (compareOp .Is) (λx y H Q=>y= .bb/\Q (.bl (decide (x= .bb))) H):=by
 intro pins s σ H x y v u Q I rx ry h;obtain⟨rfl,q⟩:=h;subst ry;refine is_none_gen (Ec I q ?_)
 cases x<;>first
  | (cases rx;rfl)
  | (obtain⟨t,rfl⟩:=rx;rfl)
theorem IF:OpR X (compareOp .IsNot) (λx y H Q=>y= .bb/\Q (.bl (!decide (x= .bb))) H):=by
 intro pins s σ H x y v u Q I rx ry h;obtain⟨rfl,q⟩:=h;subst ry;refine isnot_none_gen (Ec I q ?_)
 cases x<;>first
  | (cases rx;rfl)
  | (obtain⟨t,rfl⟩:=rx;rfl)
theorem OpR.or{f:Value->Value->Sem Value}{r r':R2}(h:OpR X f r)(h':OpR X f r'):OpR X f (λx y H Q=>r x y H Q\/r' x y H Q):=by
 intro pins s σ H x y v u Q I rx ry q
 rcases q with q|q
 ·exact h pins s σ H x y v u Q I rx ry q
 ·exact h' pins s σ H x y v u Q I rx ry q
theorem bf(b:Expr){op:CmpOp}(h:op≠ .In:=by decide)(h2:op≠ .NotIn:=by decide):behindInMarks op b=false:=by
 have e1:(op==CmpOp.In)=false:=by cases op<;>first|rfl|exact absurd rfl h
 have e2:(op==CmpOp.NotIn)=false:=by cases op<;>first|rfl|exact absurd rfl h2
 cases b<;>simp[behindInMarks,e1,e2]
theorem IK{op:CmpOp}{r:R2}(ho:OpR X (compareOp op) r)(ha:PE X a ta)(hb:PE X b tb)(hm:behindInMarks op b=false):PE X (.Compare a [op] [b] pos) (JR r ta tb):=by
 intro pins s σ H Q I h;exact wpAny_Compare1 (GK ha hb I h λv u s2 x y H2 I2 rx ry q=>ho pins s2 σ H2 x y v u Q I2 rx ry q) hm
def Dq(t:TE):TT:=λσ H Q=>t σ H λx H'=>∃k,x= .bl k/\Q k H'
theorem Jd{op:CmpOp}{r:R2}(ho:OpR X (compareOp op) r)(ha:PE X a ta)(hb:PE X b tb)(hm:behindInMarks op b=false):PT X (.Compare a [op] [b] pos) (Dq (JR r ta tb)):=by
 intro pins s σ H Q I h
 refine wpAny_isTrue_Compare1 (thn (ha pins s σ H _ I h) λv s1 ⟨x,H1,I1,r1,q1⟩=>thn (hb pins s1 σ H1 _ I1 q1) λu s2 ⟨y,H2,I2,r2,q2⟩=>
  thn (ho pins s2 σ H2 x y v u _ I2 r1 r2 q2) λc s3 ⟨z,H3,I3,r3,k,e,q3⟩=>?_) hm
 subst e;subst r3;exact wpAny_truthy_bool ⟨H3,I3,q3⟩
def zL(r r':R2)(ta tb tc:TE):TE:=λσ H Q=>ta σ H λx H1=>tb σ H1 λy H2=>r x y H2 λz H3=>∃k,z= .bl k/\
 (if k=true then tc σ H3 λw' H4=>r' y w' H4 Q else Q (.bl false) H3)
theorem FI{op pz:CmpOp}{r r':R2}(ho:OpR X (compareOp op) r)(g7:OpR X (compareOp pz) r')(ha:PE X a ta)(hb:PE X b tb)(hc:PE X c tc)
  (hm:lastMarks [op,pz] [b,c]=false:=by with_unfolding_all rfl):PE X (.Compare a [op,pz] [b,c] pos) (zL r r' ta tb tc):=by
 intro pins s σ H Q I h
 refine Compare_chain (thn (ha pins s σ H _ I h) λv s1 ⟨x,H1,I1,r1,q1⟩=>chain_link (thn (hb pins s1 σ H1 _ I1 q1) λu s2 ⟨y,H2,I2,r2,q2⟩=>
  thn (ho pins s2 σ H2 x y v u _ I2 r1 r2 q2) λd s3 ⟨z,H3,I3,r3,k,e,q3⟩=>?_)) hm
 subst e;subst r3;refine wpAny_truthy_bool ?_;cases k with
 |false=>exact ite_ff ⟨.bl false,H3,I3,rfl,q3⟩
 |true=>exact ite_tt (chain_last (thn (hc pins s3 σ H3 _ I3 q3) λw' s4 ⟨z',H4,I4,r4,q4⟩=>g7 pins s4 σ H4 y z' u w' Q I4 r2 r4 q4))
theorem FT{op pz:CmpOp}{r r':R2}(ho:OpR X (compareOp op) r)(g7:OpR X (compareOp pz) r')(ha:PE X a ta)(hb:PE X b tb)(hc:PE X c tc)
  (hm:lastMarks [op,pz] [b,c]=false:=by with_unfolding_all rfl):PT X (.Compare a [op,pz] [b,c] pos) (Dq (zL r r' ta tb tc)):=by
 intro pins s σ H Q I h
 refine isTrue_chain (thn (ha pins s σ H _ I h) λv s1 ⟨x,H1,I1,r1,q1⟩=>test_link (thn (hb pins s1 σ H1 _ I1 q1) λu s2 ⟨y,H2,I2,r2,q2⟩=>
  thn (ho pins s2 σ H2 x y v u _ I2 r1 r2 q2) λd s3 ⟨z,H3,I3,r3,k,e,q3⟩=>?_)) hm
 subst e;subst r3;refine wpAny_truthy_bool ?_;cases k with
 |false=>
  rfl';obtain⟨k',e',q'⟩:=q3;cases e';ac_rfl;exact ite_ff ⟨H3,I3,q'⟩
 |true=>
  refine ite_tt (test_last (thn (hc pins s3 σ H3 _ I3 q3) λw' s4 ⟨z',H4,I4,r4,q4⟩=>thn (g7 pins s4 σ H4 y z' u w' _ I4 r2 r4 q4) λd' s5 ⟨z2,H5,I5,r5,k2,e2,q5⟩=>?_));subst e2;subst r5;exact wpAny_truthy_bool ⟨H5,I5,q5⟩
def MF(K:PySem.W.Frag)(x:V)(H:Hp)(k:Bool):Prop:=
 match x with
 | .bb=>k=false
 | .bl b=>k=b
 | .int i=>k=(i !=0)
 | .str y=>y.length<=sizeLine/\k=((y.length:Int) !=0)
 | .ES y=>y.size<=sizeLine/\k=((y.size:Int) !=0)
 | .ref p=>(∃xs,bU K H p xs/\k= !xs.isEmpty)\/(∃xs,gq K H p xs/\k= !xs.isEmpty)\/∃eH,H p=some (.dK eH)/\k= !eH.isEmpty
 |_=>False
theorem AL{κ:Type}{eH:List (κ×V)}{vs:List (κ×Value)}(r:KV eH vs):(!vs.isEmpty)= !eH.isEmpty:=by
 cases r<;>rfl
theorem sH{xs:List V}{its:List Value}(r:Vals xs its):(!its.toArray.isEmpty)= !xs.isEmpty:=by
 cases r<;>simp
theorem jH:(sizeLine:Nat)<2^63:=by rw[sizeLine_eq];decide
theorem Mt:Ra X (λx H Q=>∃k,MF X.K x H k/\Q k H):=by
 intro pins s σ H x v Q I rx h;obtain⟨k,e,q⟩:=h;have hl:=jH;have hs:sizeLine=16777216:=sizeLine_eq;cases x with
 |bb=>
  cases rx;have e':k=false:=e;subst e';exact truthy_none ⟨H,I,q⟩
 |bl b=>
  cases rx;have e':k=b:=e;subst e';exact wpAny_truthy_bool ⟨H,I,q⟩
 |int i=>
  obtain⟨t,rfl⟩:=rx;have e':k=(i !=0):=e;subst e';exact PySem.P.truthy_int ⟨H,I,q⟩
 |str y=>
  obtain⟨t,rfl⟩:=rx;obtain⟨hy,e'⟩:y.length<=sizeLine/\k=((y.length:Int) !=0):=e;subst e';exact PySem.P.truthy_str (by omega) ⟨H,I.tok _,q⟩
 |ES y=>
  obtain⟨t,rfl⟩:=rx;obtain⟨hy,e'⟩:y.size<=sizeLine/\k=((y.size:Int) !=0):=e;subst e';exact PySem.W.truthy_bytes (by omega) ⟨H,I.tok _,q⟩
 |ref p=>
  subst rx;have e':(∃xs,bU X.K H p xs/\k= !xs.isEmpty)\/(∃xs,gq X.K H p xs/\k= !xs.isEmpty)\/∃eH,H p=some (.dK eH)/\k= !eH.isEmpty:=e
  rcases e' with ⟨xs,hx,e'⟩ | ⟨xs,hx,e'⟩ | ⟨eH,hx,e'⟩
  ·subst e'
   obtain⟨its,r,pl,hz⟩:=I.list hx;have hlen:=r.length;exact wpAny_truthy_list pl.isList (by simp only[cL];omega) ⟨H,I.tok _,by rw[sH r];exact q⟩
  ·subst e'
   obtain⟨its,r,pl,hz⟩:=I.tuple hx;have hlen:=r.length;exact truthy_tuple pl (by simp only[cL];omega) ⟨H,I.tok _,by rw[sH r];exact q⟩
  ·subst e'
   obtain⟨hz,hS,vs,r,m⟩:eH.length<=sizeLine/\(p==sysModules)=false/\∃vs,KV eH vs/\s.heap.DictOf (vk X.prog X.w) p vs:=I.hok p _ hx;have hlen:eH.length=vs.length:=Paired.length r;exact wpAny_truthy_dict hS m (by omega) ⟨H,I.tok _,by rw[AL r];exact q⟩
 |_=>exact(show False from e).elim
theorem FU(ha:PE X a ta)(he:∀whole,isTrue a X.env whole=(do let v <-whole;standAt a.pos;holding [v] (truthy v))):
  PT X a (λσ H Q=>ta σ H λx H'=>∃k,MF X.K x H' k/\Q k H'):=by
 intro pins s σ H Q I h;exact isTrue_plain (thn (ha pins s σ H _ I h) λv s1 ⟨x,H1,I1,r1,q1⟩=>Mt pins s1 σ H1 x v Q I1 r1 q1) (he _)
theorem vals1{x:V}{us:List Value}(r:Vals [x] us):∃u,us= [u]/\RelV x u:=by
 cases r with
 |cons r1 r2=>cases r2;exact⟨_,rfl,r1⟩
theorem vals2{x y:V}{us:List Value}(r:Vals [x,y] us):∃u w',us= [u,w']/\RelV x u/\RelV y w':=by
 cases r with
 |cons r1 r2=>
  cases r2 with
  |cons r3 r4=>cases r4;exact⟨_,_,rfl,r1,r3⟩
theorem BV(hc:X.calm=true):eM X (.builtin "max") (λxs H Q=>∃i j,xs= [.int i, .int j]/\Q (.int (if j>i then j else i)) H):=by
 intro pins s σ H xs us Q I r h;rfl';obtain⟨i,j,rfl,q⟩:=h;obtain⟨u,w',rfl,⟨t,rfl⟩,⟨t',rfl⟩⟩:=vals2 r;ac_rfl;refine max_two_ints (I.ok.hd hc) λh' tk k=>⟨_,H,I.kept k,?_,q⟩
 by_cases hj:j>i
 ·rw[if_pos hj,if_pos hj];exact⟨_,rfl⟩
 ·rw[if_neg hj,if_neg hj];exact⟨_,rfl⟩
end
structure uh (h:Heap) (x dx C:Addr) (mA:Str->Option Value):Prop where
 obj:h.get? x=some (PySem.W.instObj C dx)
 ns:h.Ns1 dx mA
 ne:dx≠x
theorem CH{h:Heap}{dx:Addr}{mA:Str->Option Value}(n:h.Ns1 dx mA):∃od,h.get? dx=some od/\∀name,PySem.W.lookIn name od=some (mA name):=by
 rfl';obtain⟨o,es,ep,ho,hd,hk,_,hm⟩:=n;ac_rfl;refine⟨o,ho,λname=>?_⟩;have e:=hm name;unfold nsFind findBy at e;rw[<-Array.find?_toList] at e;unfold PySem.W.lookIn;rw[hd];dsimp only
 split
 ·rename_i y q
  rw[q] at e;exact congrArg some e
 ·rename_i q
  rw[q] at e
  have a:es.toList.any (·.refKey)=false:=by
   rw[List.any_eq_false];intro y hy;obtain⟨z,t,Uw⟩:=hk y (Array.mem_toList_iff.mp hy);simp[DictEntry.refKey,Uw]
  have a':¬es.toList.any (·.refKey)=true:=by rw[a];exact cK
  rw[if_neg a'];exact congrArg some e
theorem uh.look{h:Heap}{x dx C:Addr}{mA:Str->Option Value}(I:uh h x dx C mA):∃od,PySem.W.InstAt h x (PySem.W.instObj C dx) C (some od)/\∀name,PySem.W.lookIn name od=some (mA name):=
 let ⟨od,ho,hl⟩:=CH I.ns
 ⟨od,⟨I.obj,rfl,rfl,ho⟩,hl⟩
section
variable {prog:Program} {w:World} {A:Around} {E:Value->Shared->Prop} {s:Shared} {K:PySem.W.Frag} {x dx C f:Addr} {mA:Str->Option Value} {name:Str} {v:Value}
theorem get_map{expr:Bool}{Q:Value->Shared->Prop}(X:K.In s.heap)(I:uh s.heap x dx C mA)(hg:PySem.W.plainGet K C name=true)(hh:PySem.W.hasDictIn K C=true)
  (ha:PySem.W.findIn K (.ref C) name=some none) (hv:mA name=some v) (zd:PySem.W.handedIn v=true) (h:Q v {s with toks:=s.toks+1}):
  wpAny (model prog w) A (getAttr (.ref x) name expr) Q E s:=by
 obtain⟨od,J,hl⟩:=I.look;exact PySem.W.get_value X J (PySem.W.plainGet_of hg).1 (PySem.W.findObj_own hh ha rfl (by rw[hl,hv])) zd h
theorem Fc{pl:Sem Bool}{Q:Value×List Value->Shared->Prop}(X:K.In s.heap)(I:uh s.heap x dx C mA)(hg:PySem.W.plainGet K C name=true)
  (hf:PySem.W.findIn K (.ref C) name=some (some (.ref f))) (ht:PySem.W.isFn K (.ref f)=true) (hv:mA name=none) (h:Q (.ref f,[.ref x]) s):
  wpAny (model prog w) A (getMethod (.ref x) name pl) Q E s:=by
 obtain⟨od,J,hl⟩:=I.look;exact PySem.W.method_fn X J (PySem.W.plainGet_of hg).1 (PySem.W.plainGet_of hg).2 hf (beq_iff_eq.mp ht) (by show(PySem.W.lookIn name od).map (·.isSome)=some false;rw[hl,hv];rfl) h
theorem Jt{ns:List Str}{Q:Unit->Shared->Prop}(X:K.In s.heap)(I:uh s.heap x dx C mA)
  (hs:PySem.W.findIn K (.ref C) "__setattr__"=some (some (.builtin "object.__setattr__"))) (hp:PySem.W.plainOver K C=true) (ht:PySem.W.takerIn K C name=some none) (hh:PySem.W.hasDictIn K C=true)
  (hw:PySem.Within mA ns) (wM:ns.length<=sizeLine)
  (h:∀h',uh h' x dx C (λy=>if y=name then some v else mA y)->Heap.SameBut dx s.heap h'->Q () {s with heap:=h',toks:=s.toks+2}):
  wpAny (model prog w) A (setAttr (.ref x) name v) Q E s:=by
 rfl';obtain⟨od,J,hl⟩:=I.look;obtain⟨cd,hc,gP⟩:=PySem.W.any_some hh;ac_rfl;refine PySem.W.set_plain X J hs (PySem.W.osa_open (s:={s with toks:=s.toks+1}) (r:=none) X J hp ht λb=>?_)
 have hx:s.heap.get? x=some ⟨.ref C,some dx, .plain, #[]⟩:=I.obj;refine wpAny_bind (wpAny_pure (wpAny_bind (wpAny_bind (wpAny_loadPart hx (wpAny_bind (PySem.W.Looks.here (s:={s with toks:=s.toks+1}) (PySem.W.looks_clsIn X hc) ?_))))))
 rw[gP];refine wpAny_pure (a:=some dx) (wpAny_bind (wpAny_pure (wpAny_bind ?_)));refine wpAny_nsSet1 (s:={s with toks:=s.toks+1}) I.ns λh' KZ iN=>?_
 rfl';obtain⟨oD,esD,epD,hoD,hdD,hcD⟩:=KZ.count (PySem.Within.cons name v hw);ac_rfl;refine wpAny_bind (wpAny_lookBehind hoD (by rw[hdD];exact pastItsLine_dict (jx hcD (by rw[cw];omega))) ?_)
 exact wpAny_pure (h _ ⟨(iN.2 _ (Ne.symm I.ne)).trans I.obj,KZ,I.ne⟩ iN)
theorem Fz{R:Result->Shared->Prop}{vs:List Value}{kw:List (Str×Value)}(X:K.In s.heap)(hm:PySem.W.makesIn K C=true)
  (hi:PySem.W.findIn K (.ref C) "__init__"=some (some (.ref f))) (hf:PySem.W.typeIn K (.ref f)=some (.type "function"))
  (h:codeAny (model prog w) (A.under (.builtin "type.__call__" ⟨.ref C::vs,kw⟩)) (.call (.ref f) ⟨.ref (s.heap.objs.size+1)::vs,kw⟩) (PySem.W.InitBack (s.heap.objs.size+1) R)
   {s with heap:=(s.heap.push PySem.W.emptyDict).push (PySem.W.instObj C s.heap.objs.size)}):
  codeAny (model prog w) A (.call (.ref C) ⟨vs,kw⟩) R s:=by
 obtain⟨hh,g,d,t,os⟩:=s;exact PySem.W.make_core (PySem.W.makes_of X hm) (PySem.W.looks_findIn X hi) (λself=>PySem.W.bind_fn X self hf) (.inl rfl) h
end
def iF(f:Str)(v:V):List (Str×V)->List (Str×V)
 | []=> [(f,v)]
 | (g,x)::r=>if g=f then(g,v)::r else(g,x)::iF f v r
theorem qs(f g:Str)(v:V):∀fs:List (Str×V),(iF f v fs).lookup g=if g=f then some v else fs.lookup g
 | []=>by
  show List.lookup g [(f,v)]=_
  by_cases h:g=f
  ·have hb:(g==f)=true:=beq_iff_eq.mpr h
   simp only[List.lookup,hb,if_pos h]
  ·have hb:(g==f)=false:=beq_eq_false_iff_ne.mpr h
   simp only[List.lookup,hb,if_neg h]
 | (k,x)::r=>by
  have ih:=qs f g v r;rw[show iF f v ((k,x)::r)=(if k=f then(k,v)::r else(k,x)::iF f v r) from rfl]
  by_cases hk:k=f
  ·rw[if_pos hk]
   by_cases h:g=k
   ·have hb:(g==k)=true:=beq_iff_eq.mpr h
    simp only[List.lookup,hb,if_pos (h.trans hk)]
   ·have hb:(g==k)=false:=beq_eq_false_iff_ne.mpr h
    simp only[List.lookup,hb,if_neg (λe:g=f=>h (e.trans hk.symm))]
  ·rw[if_neg hk]
   by_cases h:g=k
   ·have hb:(g==k)=true:=beq_iff_eq.mpr h
    simp only[List.lookup,hb,if_neg (λe:g=f=>hk (h.symm.trans e))]
   ·have hb:(g==k)=false:=beq_eq_false_iff_ne.mpr h
    simp only[List.lookup,hb];exact ih
theorem oZ(f:Str)(v:V):∀fs:List (Str×V),f∈(iF f v fs).map (·.1)/\∀g,g∈fs.map (·.1)->g∈(iF f v fs).map (·.1)
 | []=>⟨by simp[iF],λg h=>by simp at h⟩
 | (k,x)::r=>by
  obtain⟨i1,i2⟩:=oZ f v r;rw[show iF f v ((k,x)::r)=(if k=f then(k,v)::r else(k,x)::iF f v r) from rfl]
  by_cases hk:k=f
  ·rw[if_pos hk]
   subst hk;exact⟨by simp,λg h=>h⟩
  ·rw[if_neg hk]
   refine⟨?_,λg h=>?_⟩
   ·rw[iJ]
    exact bP _ i1
   ·rw[iJ] at h ⊢
    rcases cm.mp h with e|e
    ·exact cm.mpr (.inl e)
    ·exact bP _ (i2 g e)
theorem qq(f:Str)(v:V):∀fs:List (Str×V),(iF f v fs).length<=fs.length+1
 | []=>by simp[iF]
 | (k,x)::r=>by
  have ih:=qq f v r;rw[show iF f v ((k,x)::r)=(if k=f then(k,v)::r else(k,x)::iF f v r) from rfl]
  by_cases hk:k=f
  ·rw[if_pos hk,cw,cw];omega
  ·rw[if_neg hk,cw,cw];omega
theorem mw.some_of{v:V}{o:Option Value}(r:mw (some v) o):∃u,o=some u/\RelV v u:=by
 cases o with
 |none=>exact(show False from r).elim
 |some u=>exact⟨u,rfl,r⟩
theorem mw.none_of{o:Option Value}(r:mw none o):o=none:=by
 cases o with
 |none=>rfl
 |some u=>exact(show False from r).elim
theorem Ce{v:V}{u:Value}(r:RelV v u):PySem.W.handedIn u=true:=by
 cases v with
 |bb=>cases(show u=Value.none from r);rfl
 |bl b=>cases(show u=Value.bool b from r);rfl
 |int i=>obtain⟨t,e⟩:=(show ∃t,u=Value.int i t from r);cases e;rfl
 |str x=>obtain⟨t,e⟩:=(show ∃t,u=Value.str x t from r);cases e;rfl
 |ES b=>obtain⟨t,e⟩:=(show ∃t,u=Value.bytes b t from r);cases e;rfl
 |B8 b=>obtain⟨t,e⟩:=(show ∃t,u=Value.float b t from r);cases e;rfl
 |ref a=>cases(show u=Value.ref a from r);rfl
 |ty n=>cases(show u=Value.type n from r);rfl
section
variable {P:Program} {w:World} {H H':Hp} {h h':Heap} {a C dx:Addr} {fs Pb:List (Str×V)}
theorem qo(hok:iK P w H h)(e:H a=some (.ins C dx fs)):∃mA,uh h a dx C mA/\(∀f,mw (fs.lookup f) (mA f))/\PySem.Within mA (fs.map (·.1))/\fs.length<=1000/\H dx=some (.own a):=by
 obtain⟨d,z,ne,ob,mA,n,r,q⟩:=(show cP P w H h a (.ins C dx fs) from hok a _ e);exact⟨mA,⟨ob,n,ne⟩,r,q,z,d⟩
end
structure ub (K:PySem.W.Frag) (C:Addr):Prop where
 pg:PySem.W.plainGet K C Str.empty=true
 hd:PySem.W.hasDictIn K C=true
 po:PySem.W.plainOver K C=true
 sa:PySem.W.findIn K (.ref C) "__setattr__"=some (some (.builtin "object.__setattr__"))
theorem ub.get{K:PySem.W.Frag}{C:Addr}(c:ub K C)(f:Str):PySem.W.plainGet K C f=true:=c.pg
def kR(K:PySem.W.Frag)(C:Addr)(f:Str):Prop:=PySem.W.findIn K (.ref C) f=some none
theorem kR.QL{K:PySem.W.Frag}{C:Addr}{f:Str}(n:kR K C f):PySem.W.takerIn K C f=some none:=by
 unfold PySem.W.takerIn;rw[show PySem.W.findIn K (.ref C) f=some none from n];rfl
structure Meth (K:PySem.W.Frag) (C:Addr) (m:Str) (f:Addr):Prop where
 at_:PySem.W.findIn K (.ref C) m=some (some (.ref f))
 fn:PySem.W.isFn K (.ref f)=true
 kp:PySem.W.keepIn K (.ref f)=true
section
variable {X:Cx} {pins:List (Addr×Obj)} {σ:St} {H:Hp} {s:Shared} {a C dx:Addr} {fs:List (Str×V)} {f:Str} {v:V} {A:Around} {E:Value->Shared->Prop}
theorem AB{b:Bool}{Q:Value->Shared->Prop}(I:Inv X pins σ H s)(e:H a=some (.ins C dx fs))(c:ub X.K C)(n:kR X.K C f)(l:fs.lookup f=some v)
  (h:∀u s',Inv X pins σ H s'->RelV v u->Q u s'):wpAny (model X.prog X.w) A (getAttr (.ref a) f b) Q E s:=by
 obtain⟨mA,O,r,_,_,_⟩:=qo I.hok e;obtain⟨u,hu,ru⟩:=mw.some_of (v:=v) (o:=mA f) (by rw[<-l];exact r f)
 exact get_map I.ik O (c.get f) c.hd n hu (Ce ru) (h u _ (I.tok _) ru)
theorem sE{m:Str}{g:Addr}{pl:Sem Bool}{Q:Value×List Value->Shared->Prop}(I:Inv X pins σ H s)(e:H a=some (.ins C dx fs))(c:ub X.K C)(k:Meth X.K C m g)(l:fs.lookup m=none)
  (h:Q (.ref g,[.ref a]) s):wpAny (model X.prog X.w) A (getMethod (.ref a) m pl) Q E s:=by
 obtain⟨mA,O,r,_,_,_⟩:=qo I.hok e;have hn:mA m=none:=mw.none_of (by rw[<-l];exact r m)
 exact Fc I.ik O (c.get m) k.at_ k.fn hn h
theorem Bm{y:V}{u:Value}{Q:Unit->Shared->Prop}(I:Inv X pins σ H s)(e:H a=some (.ins C dx fs))(c:ub X.K C)(n:kR X.K C f)(hl:fs.length<1000)(ry:RelV y u)
  (h:∀s',Inv X pins σ (upd H a (.ins C dx (iF f y fs))) s'->Q () s'):wpAny (model X.prog X.w) A (setAttr (.ref a) f u) Q E s:=by
 rfl';obtain⟨mA,O,r,wi,_,ho⟩:=qo I.hok e;have hz:(fs.map (·.1)).length<=sizeLine:=by rw[aG,sizeLine_eq];omega
 ac_rfl;refine Jt I.ik O c.sa c.po n.QL c.hd wi hz λh' O' sb=>h _ ?_;have hd:∃o,h'.get? dx=some o:=let ⟨o,_,_,e',_⟩:=O'.ns;⟨o,e'⟩;refine I.write (x:=a) (e:=dx) (by rw[e];exact True.intro) (.inr ho) (λb q hb z=>(sb.2 b hb).trans z) hd ?_
 refine⟨by rw[aw O.ne];exact ho,?_,O.ne,O'.obj,_,O'.ns,λg=>?_,λg hg=>?_⟩
 ·have:=qq f y fs;omega
 ·show mw ((iF f y fs).lookup g) (if g=f then some u else mA g)
  rw[qs]
  by_cases q:g=f
  ·rw[if_pos q,if_pos q];exact ry
  ·rw[if_neg q,if_neg q];exact r g
 ·by_cases q:g=f
  ·rw[q];exact(oZ f y fs).1
  ·refine(oZ f y fs).2 g (wi g λz=>hg ?_)
   show(if g=f then some u else mA g)=none;rw[if_neg q];exact z
theorem Inv.made(I:Inv X pins σ H s):Inv X pins σ (upd (upd H s.heap.objs.size (.own (s.heap.objs.size+1))) (s.heap.objs.size+1) (.ins C s.heap.objs.size []))
  {s with heap:=(s.heap.push PySem.W.emptyDict).push (PySem.W.instObj C s.heap.objs.size)}:=by
 have e1:(s.heap.push PySem.W.emptyDict).get? s.heap.objs.size=some PySem.W.emptyDict:=Heap.get?_push_size s.heap rfl
 have e2:((s.heap.push PySem.W.emptyDict).push (PySem.W.instObj C s.heap.objs.size)).get? (s.heap.objs.size+1)=some (PySem.W.instObj C s.heap.objs.size):=by
  have:=Heap.get?_push_size (s.heap.push PySem.W.emptyDict) (o:=PySem.W.instObj C s.heap.objs.size) rfl
  rwa [Heap.size_push] at this
 have e3:(s.heap.push PySem.W.emptyDict).Ns s.heap.objs.size (λ_=>none):=⟨PySem.W.emptyDict, #[],_,e1,rfl,(λe he=>absurd he (by simp)),λ_=>rfl⟩
 have I1:=I.laid (a:=s.heap.objs.size) (o:= .own (s.heap.objs.size+1)) (h':=s.heap.push PySem.W.emptyDict) (t':=s.toks) (λb u q=>Heap.get?_push_of_some _ q) (bC _) ⟨_,e1⟩;refine I1.laid (a:=s.heap.objs.size+1) (o:= .ins C s.heap.objs.size []) (t':=s.toks) (λb u q=>Heap.get?_push_of_some _ q) (Nat.le_of_eq (Heap.size_push _ _)) ?_;have ne:s.heap.objs.size≠s.heap.objs.size+1:=dD (Nat.lt_succ_self _);refine⟨by rw[aw ne,av],cM _,ne,e2,λ_=>none,(Heap.Ns1.of_empty e3).at λo q=>Heap.get?_push_of_some _ q,λ_=>True.intro,λy hy=>absurd rfl hy⟩
theorem GH{prog:Program}{w:World}{env:Env}{e:Expr}{f:Str}{pos:Pos}{s:Shared}{Q:Value->Shared->Prop}(hb:attributeBase e f env (eval e env)=eval e env)
  (h:wpAny (model prog w) A (eval e env) (λo s₁=>wpAny (model prog w) A (getAttr o f true) Q E s₁) E s):wpAny (model prog w) A (eval (.Attribute e f pos) env) Q E s:=
 Attribute_any_ h (by rw[arm_eval_Attribute,hb])
end
def Yi(K:PySem.W.Frag)(ta:TE)(f:Str):TE:=λσ H Q=>ta σ H λx H1=>∃a C dx fs v,x= .ref a/\H1 a=some (.ins C dx fs)/\ub K C/\kR K C f/\fs.lookup f=some v/\Q v H1
def XA(K:PySem.W.Frag)(ta tv:TE)(f:Str):TS:=λD σ H=>tv σ H λy H1=>ta σ H1 λx H2=>∃a C dx fs,x= .ref a/\H2 a=some (.ins C dx fs)/\ub K C/\kR K C f/\fs.length<1000/\
 D.nx σ (upd H2 a (.ins C dx (iF f y fs)))
section
variable {X:Cx} {o e value:Expr} {f:Str} {pos pos' JU:Pos} {ta tv:TE}
theorem LJ(he:PE X e ta)(hb:attributeBase e f X.env (eval e X.env)=eval e X.env):PE X (.Attribute e f pos) (Yi X.K ta f):=by
 intro pins s σ H Q I h;refine GH hb (thn (he pins s σ H _ I h) λu s1 bc=>?_);rfl';obtain⟨x,H1,I1,rx,a,C,dx,fs,v,ex,ea,c,n,l,q⟩:=bc;ac_rfl;subst ex;obtain rfl:u=Value.ref a:=rx;exact AB I1 ea c n l λu' s2 I2 ru=>⟨v,H1,I2,ru,q⟩
theorem LW(ha:PE X o ta)(hv:PE X value tv)(hs:swapsWith value (some (.Attribute o f pos')) pos.line X.env=pure false):PS X (.Assign [.Attribute o f pos'] value pos) (XA X.K ta tv f):=by
 intro pins s σ H D I h;refine plainObj_wpAny_Assign_Attribute (thn (hv pins s σ H _ I h) λu s1 ⟨y,H1,I1,ry,q⟩=>thn (ha pins s1 σ H1 _ I1 q) λov s2 ⟨x,H2,I2,rx,a,C,dx,fs,ex,ea,c,n,l,q2⟩=>?_) hs;subst ex;obtain rfl:ov=Value.ref a:=rx;exact Bm I2 ea c n l ry λs3 I3=>⟨σ,_,I3,q2⟩
end
section
variable {X:Cx} {pins:List (Addr×Obj)} {σ:St} {H:Hp} {s:Shared} {A:Around} {E:Value->Shared->Prop} {Q:Value->Shared->Prop} {c:Value} {b:Bool}
inductive jA (K:PySem.W.Frag) (H:Hp):V->Value->Prop where
 |bb:jA K H .bb (.type "NoneType")
 |bl (x:Bool):jA K H (.bl x) (.type "bool")
 |int (i:Int):jA K H (.int i) (.type "int")
 |str (x:Str):jA K H (.str x) (.type "str")
 |B8 (x:UInt64):jA K H (.B8 x) (.type "float")
 |lst {a:Addr} {xs:List V} (e:H a=some (.lst xs)):jA K H (.ref a) (.type "list")
 |oX {a:Addr} {o:Obj} {xs:List V} (e:H a=some (.oX o (.lst xs))):jA K H (.ref a) (.type "list")
 |tup {a:Addr} {xs:List V} (e:H a=some (.tup xs)):jA K H (.ref a) (.type "tuple")
 |dK {a:Addr} {eH:List (Key×V)} (e:H a=some (.dK eH)):jA K H (.ref a) (.type "dict")
 |dT {a:Addr} {eH:List (List Key×V)} (e:H a=some (.dT eH)):jA K H (.ref a) (.type "dict")
 |ins {a C dx:Addr} {fs:List (Str×V)} (e:H a=some (.ins C dx fs)) (cl:ub K C) (ha:PySem.W.findIn K (.ref C) "__class__"=some (some (.builtin "object.__class__")))
   (hn:PySem.W.specialIn K (.builtin "object.__class__") "__get__"=some (some (.builtin "getset_descriptor.__get__"))) (UP:PySem.W.takesIn K (.builtin "object.__class__")=some true)
   (hm:PySem.W.mroIn K C (.type "object")=some true):jA K H (.ref a) (.ref C)
theorem Ct{x:V}{u t:Value}(I:Inv X pins σ H s)(rx:RelV x u)(ty:jA X.K H x t)(e:PySem.W.kitOne X.K t c=some b)(h:∀tk,Q (.bool b) {s with toks:=tk}):
  wpAny (model X.prog X.w) A (call (.builtin "isinstance") [u,c]) Q E s:=by
 cases ty with
 |bb=>cases(show u=Value.none from rx);exact PySem.W.kia_one PySem.W.kitx_none I.ik True.intro e (λz=>nomatch z) h
 |bl y=>cases(show u=Value.bool y from rx);exact PySem.W.kia_one PySem.W.kitx_bool I.ik True.intro e (λz=>nomatch z) h
 |int i=>obtain⟨t,q⟩:=(show ∃t,u=Value.int i t from rx);cases q;exact PySem.W.kia_one PySem.W.kitx_int I.ik True.intro e (λz=>nomatch z) h
 |str y=>obtain⟨t,q⟩:=(show ∃t,u=Value.str y t from rx);cases q;exact PySem.W.kia_one PySem.W.kitx_str I.ik True.intro e (λz=>nomatch z) h
 |B8 y=>obtain⟨t,q⟩:=(show ∃t,u=Value.float y t from rx);cases q;exact PySem.W.kia_one PySem.W.kitx_float I.ik True.intro e (λz=>nomatch z) h
 | @lst a xs ea=>
  cases(show u=Value.ref a from rx);obtain⟨_,_,n,_,h1⟩:=(show cP X.prog X.w H s.heap a (.lst xs) from I.hok a _ ea);exact PySem.W.kia_one PySem.W.kitx_list I.ik ⟨_,h1,rfl⟩ e (λz=>nomatch z) h
 | @oX a ob xs ea=>
  cases(show u=Value.ref a from rx);obtain⟨_,_,_,n,_,h1⟩:=(show cP X.prog X.w H s.heap a (.oX ob (.lst xs)) from I.hok a _ ea);exact PySem.W.kia_one PySem.W.kitx_list I.ik ⟨_,h1,rfl⟩ e (λz=>nomatch z) h
 | @tup a xs ea=>
  cases(show u=Value.ref a from rx);obtain⟨_,_,_,p⟩:=(show cP X.prog X.w H s.heap a (.tup xs) from I.hok a _ ea);obtain⟨o,h1,h2,_⟩:=p;exact PySem.W.kia_one PySem.W.kitx_tuple I.ik ⟨o,h1,h2⟩ e (λz=>nomatch z) h
 | @dK a eH ea=>
  cases(show u=Value.ref a from rx);obtain⟨_,_,vs,_,p⟩:=(show cP X.prog X.w H s.heap a (.dK eH) from I.hok a _ ea);obtain⟨o,es,ep,h1,h2,_⟩:=p;exact PySem.W.kia_one PySem.W.kitx_dict I.ik ⟨o,h1,h2.1⟩ e (λz=>nomatch z) h
 | @dT a eH ea=>
  cases(show u=Value.ref a from rx);obtain⟨_,_,xs,_,o,es,ep,h1,h2,_⟩:=(show cP X.prog X.w H s.heap a (.dT eH) from I.hok a _ ea);exact PySem.W.kia_one PySem.W.kitx_dict I.ik ⟨o,h1,h2.1⟩ e (λz=>nomatch z) h
 | @ins a C dx fs ea cl ha hn UP hm=>
  rfl';cases(show u=Value.ref a from rx);obtain⟨mA,O,_⟩:=qo I.hok ea;obtain⟨od,J,_⟩:=O.look;ac_rfl;exact PySem.W.kia_one (PySem.W.kitx_own (cl.get _) cl.hd ha hn UP hm) I.ik J e (λz=>nomatch z) h
end
structure cn (k:Nat) (A:Around):Prop where
 hd:A.handled=none
 dp:A.depth+3*k+5<recursionLimit
 un:A.units+16*k+200<cLine
theorem cn.mono{j k:Nat}{A:Around}(r:cn k A)(h:j<=k):cn j A:=⟨r.hd,by have:=r.dp;omega,by have:=r.un;omega⟩
theorem cn.deeper{k:Nat}{A:Around}(r:cn (k+1) A)(env:Env):cn k (A.deeper env):=
 ⟨r.hd,by have:=r.dp;show A.depth+1+3*k+5<_;omega,by have:=r.un;show A.units+3+16*k+200<_;omega⟩
theorem AZ{A:Around}{C:Addr}{us:List Value}{kw:List (Str×Value)}:(A.under (.builtin "type.__call__" ⟨.ref C::us,kw⟩)).depth=A.depth+1:=by
 first|rfl|simp[Around.under,Code.weight,Code.isCreation,Code.isGuard,Code.isCaller,Code.frames,Code.isFrame,guardIds]
theorem A0{A:Around}{C:Addr}{us:List Value}{kw:List (Str×Value)}:(A.under (.builtin "type.__call__" ⟨.ref C::us,kw⟩)).units=A.units+1:=by
 first|rfl|simp[Around.under,Code.cUnits,Code.frames,Code.isFrame]
theorem cn.make{k:Nat}{A:Around}(r:cn (k+1) A)(C:Addr)(us:List Value)(kw:List (Str×Value)):cn k (A.under (.builtin "type.__call__" ⟨.ref C::us,kw⟩)):=
 ⟨r.hd,by have:=r.dp;rw[AZ];omega,by have:=r.un;rw[A0];omega⟩
theorem cn.depth{k:Nat}{A:Around}(r:cn k A):A.depth<recursionLimit:=by have:=r.dp;omega
theorem cn.units{k:Nat}{A:Around}(r:cn k A):A.units+64<cLine:=by have:=r.un;omega
def NT:TA:=λ_ H Q=>Q [] H
def QF(ta:TE)(tr:TA):TA:=λσ H Q=>ta σ H λx H1=>tr σ H1 λxs H2=>Q (x::xs) H2
section
variable {X:Cx} {e:Expr} {es:List Expr} {te:TE} {t:TA} {pos:Pos}
theorem fU:PA X [] NT:=λ_ _ _ _ H Q I h=>Calls.spliced_nil ⟨[],H,I, .nil,h⟩
theorem cS(ha:PE X e te)(hr:PA X es t)(hs:starEach (e::es) X.env=(false,eval e X.env)::starEach es X.env:=by rfl):PA X (e::es) (QF te t):=by
 intro pos pins s σ H Q I h;rw[hs];show wpAny _ _ (spliced ((false,eval e X.env)::backTo pos (starEach es X.env))) _ _ s;refine Calls.spliced_cons (thn (ha pins s σ H _ I h) λu s1 bc=>?_);rfl';obtain⟨x,H1,I1,r1,q1⟩:=bc;ac_rfl;exact thn (hr pos pins s1 σ H1 _ I1 q1) λus s2 ⟨xs,H2,I2,r2,q2⟩=>⟨x::xs,H2,I2, .cons r1 r2,q2⟩
def Yq(t:TA):TE:=λσ H Q=>t σ H λxs H1=>xs.length<=sizeLine/\∀p,H1 p=none->Q (.ref p) (upd H1 p (.tup xs))
def Yl(t:TA):TE:=λσ H Q=>t σ H λxs H1=>xs.length<=sizeLine/\∀p,H1 p=none->Q (.ref p) (upd H1 p (.lst xs))
theorem LQ{x1}(h:PA X es t):PE X (.Tuple es x1 pos) (Yq t):=by
 intro pins s σ H Q I hq;refine wpAny_Tuple_spliced (thn (h pos pins s σ H _ I hq) λus s1 ⟨xs,H1,I1,r,z,q⟩=>⟨r.length▸z,?_⟩);have hf:H1 s1.heap.objs.size=none:=I1.hok.fresh (bC _);refine⟨.ref s1.heap.objs.size,upd H1 s1.heap.objs.size (.tup xs),I1.laid (t':=s1.toks) (λb u e=>Heap.get?_push_of_some _ e) (bC _) ?_,rfl,q _ hf⟩;exact⟨z,us,r,⟨_,Heap.get?_push_size _ rfl,rfl,_,rfl⟩⟩
theorem qy(h:PA X es t):PE X (.List es pos) (Yl t):=by
 intro pins s σ H Q I hq;refine wpAny_List_spliced (thn (h pos pins s σ H _ I hq) λus s1 ⟨xs,H1,I1,r,z,q⟩=>⟨r.length▸z,?_⟩);have hf:H1 s1.heap.objs.size=none:=I1.hok.fresh (bC _);refine⟨.ref s1.heap.objs.size,upd H1 s1.heap.objs.size (.lst xs),I1.laid (t':=s1.toks) (λb u e=>Heap.get?_push_of_some _ e) (bC _) ?_,rfl,q _ hf⟩;exact⟨z,us,0,r,Heap.get?_push_size _ rfl⟩
end
abbrev Sp:=List V->Hp->VK->XK->Prop
abbrev rj:=List Env->Hp->Shared->XK->Value->Shared->Prop
structure Env0 (P:Program) (w:World) (K:PySem.W.Frag) (mg:Str->Option Value) (base:Heap) (A:Around) (outer:List Env) (s:Shared) (H:Hp):Prop where
 frames:A.frames=some outer
 mod:Mod K mg base
 bs:∀b o,base.get? b=some o->s.heap.get? b=some o/\H b=none
 bsz:base.objs.size<=s.heap.objs.size
 funs:s.heap.FunFrames base outer
 frf:∀b∈uX outer,H b=none
 hok:iK P w H s.heap
 bare:AllBare s.gens
def CE(outer:List Env)(P:Program)(w:World)(H:Hp)(s:Shared)(Q:VK)(u:Value)(s':Shared):Prop:=
 ∃v H',s'.os=s.os/\AllBare s'.gens/\Un (uX outer) [] H H' s.heap s'.heap/\iK P w H' s'.heap/\RelV v u/\Q v H'
def CR(CX:rj)(outer:List Env)(P:Program)(w:World)(H:Hp)(s:Shared)(Q:VK)(E:XK)(r:Result)(s':Shared):Prop:=
 match r with
 | .ok (.ret u)=>CE outer P w H s Q u s'
 | .ok _=>False
 | .error e=>CX outer H s E e s'
structure FnOk (P:Program) (w:World) (K:PySem.W.Frag) (mg:Str->Option Value) (base:Heap) (CX:rj) (k:Nat) (f:Addr) (fd:FuncData) (ps:List Str) (sp:Sp):Prop where
 len:∀vs H Q E,sp vs H Q E->vs.length=ps.length
 run:∀(A:Around)(outer:List Env)(s:Shared)(H:Hp)(args:Args)(us:List Value)(vs:List V)(Q:VK)(E:XK),cn k A->Env0 P w K mg base A outer s H->BindsTo s fd args (ps.zip us)->Vals vs us->sp vs H Q E->
  codeAny (model P w) A (.call (.ref f) args) (CR CX outer P w H s Q E) s
theorem FnOk.mono{P:Program}{w:World}{K:PySem.W.Frag}{mg:Str->Option Value}{base:Heap}{CX:rj}{j k:Nat}{f:Addr}{fd:FuncData}{ps:List Str}{sp:Sp}(F:FnOk P w K mg base CX j f fd ps sp)(h:j<=k):
  FnOk P w K mg base CX k f fd ps sp:=⟨F.len,λA outer s H args us vs Q E hr=>F.run A outer s H args us vs Q E (hr.mono h)⟩
theorem FnOk.imp{P:Program}{w:World}{K:PySem.W.Frag}{mg:Str->Option Value}{base:Heap}{CX:rj}{k:Nat}{f:Addr}{fd:FuncData}{ps:List Str}{sp Ya:Sp}(F:FnOk P w K mg base CX k f fd ps sp)
  (h:∀vs H Q E,Ya vs H Q E->sp vs H Q E):FnOk P w K mg base CX k f fd ps Ya:=
 ⟨λvs H Q E q=>F.len vs H Q E (h _ _ _ _ q),λA outer s H args us vs Q E hr he hb hv hs=>F.run A outer s H args us vs Q E hr he hb hv (h _ _ _ _ hs)⟩
theorem Env0.make{P:Program}{w:World}{K:PySem.W.Frag}{mg:Str->Option Value}{base:Heap}{A:Around}{outer:List Env}{s:Shared}{H:Hp}(e:Env0 P w K mg base A outer s H)(C:Addr)(us:List Value)(kw:List (Str×Value)):
  Env0 P w K mg base (A.under (.builtin "type.__call__" ⟨.ref C::us,kw⟩)) outer s H:=⟨by first|exact e.frames| (simpa [Around.under,Code.envs,Code.isFrame,pushEnvs] using e.frames),e.mod,e.bs,e.bsz,e.funs,e.frf,e.hok,e.bare⟩
section
variable {X:Cx} {pins:List (Addr×Obj)} {σ:St} {H:Hp} {s s':Shared}
theorem Inv.Nu(I:Inv X pins σ H s):Env0 X.prog X.w X.K X.mg X.base X.A X.stack s H:=
 ⟨I.ok.frames,I.ok.mod,I.bs,jx I.ok.bsz I.sz,I.stack,I.Bx,I.hok,I.bare⟩
theorem Inv.after{Q:VK}{u:Value}(I:Inv X pins σ H s)(h:CE X.stack X.prog X.w H s Q u s'):EP X pins σ Q u s':=by
 obtain⟨v,H',os,bare,un,hok,r,q⟩:=h;obtain⟨hh,g,d,t,os'⟩:=s';obtain rfl:os'=s.os:=os;exact⟨v,H',I.call (h':=hh) (g':=g) (d':=d) (t':=t) (ch:= []) un hok bare (λb z=>absurd z (by simp)),r,q⟩
end
def QE(sp:Sp)(bw:List V)(E:XK)(t:TA):TE:=λσ H Q=>t σ H λvs H1=>sp (vs++bw) H1 Q E
def Dm(C:Addr)(m:Str)(sp:Sp)(bw:List V)(E:XK)(ta:TE)(t:TA):TE:=λσ H Q=>ta σ H λx H1=>∃a dx fs,x= .ref a/\H1 a=some (.ins C dx fs)/\fs.lookup m=none/\
 t σ H1 λvs H2=>sp (x::(vs++bw)) H2 Q E
def QH(C:Addr)(sp:Sp)(bw:List V)(E:XK)(t:TA):TE:=λσ H Q=>t σ H λvs H1=>∀x dx,H1 x=none->H1 dx=none->dx≠x->
 sp (.ref x::(vs++bw)) (upd (upd H1 dx (.own x)) x (.ins C dx [])) (λv H2=>v= .bb/\Q (.ref x) H2) E
def Binds(K:PySem.W.Frag)(fd:FuncData)(ps:List Str)(ds:List Value):Prop:=
 ∀(s:Shared)(us:List Value),K.In s.heap->(us++ds).length=ps.length->BindsTo s fd ⟨us,[]⟩ (ps.zip (us++ds))
theorem Binds.all{K:PySem.W.Frag}{fd:FuncData}{ps:List Str}(h:∀us:List Value,us.length=ps.length->bindArgs fd ⟨us,[]⟩=pure (ps.zip us)):Binds K fd ps []:=λs us _ hl=>by
 rw[kP] at hl ⊢;exact .of_eq (h us hl)
def Passes(CX:rj)(X:Cx)(E:XK):Prop:=∀(pins:List (Addr×Obj))(σ:St)(H:Hp)(s:Shared)(e:Value)(s':Shared),Inv X pins σ H s->CX X.stack H s E e s'->X.xe e s'
section
variable {X:Cx} {CX:rj} {k:Nat} {f C:Addr} {fd:FuncData} {ps:List Str} {sp:Sp} {bw:List V} {ds:List Value} {E:XK} {x m:Str} {p pos apos:Pos} {e o:Expr} {es:List Expr} {ta:TE} {t:TA}
theorem zF{pins:List (Addr×Obj)}{σ:St}{H:Hp}{s:Shared}{Q:VK}{us:List Value}{vs:List V}(F:FnOk X.prog X.w X.K X.mg X.base CX k f fd ps sp)(hr:cn k X.A)(hb:Binds X.K fd ps ds)(hd:Vals bw ds)(hx:Passes CX X E)
  (I:Inv X pins σ H s) (r:Vals vs us) (h:sp (vs++bw) H Q E):wpAny (model X.prog X.w) X.A (call (.ref f) us) (EP X pins σ Q) X.xe s:=by
 have r2:Vals (vs++bw) (us++ds):=r.append hd;have hl:(us++ds).length=ps.length:=by rw[<-r2.length];exact F.len _ _ _ _ h
 refine wpAny_call (codeAny_mono (F.run X.A X.stack s H ⟨us,[]⟩ (us++ds) (vs++bw) Q E hr I.Nu (hb s us I.ik hl) r2 h) λr s' hq=>?_);cases r with
 |error e=>exact hx pins σ H s e s' I hq
 |ok fl=>
  cases fl with
  |ret u=>exact I.after hq
  |next=>exact False.elim hq
  |brk=>exact False.elim hq
  |cont=>exact False.elim hq
theorem qx(F:FnOk X.prog X.w X.K X.mg X.base CX k f fd ps sp)(hr:cn k X.A)(hg:Gl X x)(hm:X.mg x=some (.ref f))(hk:PySem.W.keepIn X.K (.ref f)=true)(hb:Binds X.K fd ps ds)(hd:Vals bw ds)(hx:Passes CX X E)
  (ha:PA X (e::es) t) (ij:(x==("__debug__":Str))=false:=by decide) (he:starEach (e::es) X.env=(false,eval e X.env)::starEach es X.env:=by rfl) (eG:(backTo pos (starEach es X.env)).any (·.1)=false:=by rfl):
  PE X (.Call (.Name x p) (e::es) [] pos) (QE sp bw E t):=by
 intro pins s σ H Q I h;refine wpAny_Call_Name_kw (vd I hg hm ?_ ij);refine PySem.W.callWith_K (h₀:=X.base) I.ok.mod.kin hk (thn (ha pos pins s σ H _ I h) λus s1 ⟨vs,H1,I1,r,q⟩=>⟨I1.ik,?_⟩) he eG;exact zF F hr hb hd hx I1 r q
theorem IT{pl:Sem Bool}(he:PE X o ta)(c:ub X.K C)(hm:Meth X.K C m f)(F:FnOk X.prog X.w X.K X.mg X.base CX k f fd ps sp)(hr:cn k X.A)(hb:Binds X.K fd ps ds)(hd:Vals bw ds)(hx:Passes CX X E)(ha:PA X (e::es) t)
  (kz:starEach (e::es) X.env=(false,eval e X.env)::starEach es X.env:=by rfl) (eG:(backTo pos (starEach es X.env)).any (·.1)=false:=by rfl)
  (ht:eval (.Call (.Attribute o m apos) (e::es) [] pos) X.env=(do
   let ov <-eval o X.env
   standAt apos.atName
   let (f,first) <-holding [ov] (getMethod ov m pl)
   callWith pos f first (backTo pos (starEach (e::es) X.env)) (backToKw pos (keywordEach [] X.env))):=by rfl):
  PE X (.Call (.Attribute o m apos) (e::es) [] pos) (Dm C m sp bw E ta t):=by
 intro pins s σ H Q I h;refine PySem.W.methodCall_KW (pl:=pl) (thn (he pins s σ H _ I h) λu s1 ⟨x,H1,I1,rx,a,dx,fs,ex,ea,l,q⟩=>?_) ht;subst ex;obtain rfl:u=Value.ref a:=rx;refine sE I1 ea c hm l ?_;refine PySem.W.callWith_K (first:= [.ref a]) (h₀:=X.base) I.ok.mod.kin hm.kp (thn (ha pos pins s1 σ H1 _ I1 q) λus s2 ⟨vs,H2,I2,r,q2⟩=>⟨I2.ik,?_⟩) kz eG;exact zF (us:= .ref a::us) (vs:= .ref a::vs) F hr hb hd hx I2 (.cons rfl r) q2
theorem FJ{pl:Sem Bool}(he:PE X o ta)(c:ub X.K C)(hm:Meth X.K C m f)(F:FnOk X.prog X.w X.K X.mg X.base CX k f fd ps sp)(hr:cn k X.A)(hb:Binds X.K fd ps ds)(hd:Vals bw ds)(hx:Passes CX X E)
  (ht:eval (.Call (.Attribute o m apos) [] [] pos) X.env=(do
   let ov <-eval o X.env
   standAt apos.atName
   let (f,first) <-holding [ov] (getMethod ov m pl)
   callWith pos f first (backTo pos (starEach [] X.env)) (backToKw pos (keywordEach [] X.env))):=by rfl):
  PE X (.Call (.Attribute o m apos) [] [] pos) (Dm C m sp bw E ta NT):=by
 intro pins s σ H Q I h;refine PySem.W.methodCall_KW (pl:=pl) (thn (he pins s σ H _ I h) λu s1 ⟨x,H1,I1,rx,a,dx,fs,ex,ea,l,q⟩=>?_) ht;subst ex;obtain rfl:u=Value.ref a:=rx;refine sE I1 ea c hm l ?_;exact PySem.W.callWith_K0 (first:= [.ref a]) I1.ik hm.kp (zF (us:= [.ref a]) (vs:= [.ref a]) F hr hb hd hx I1 (.cons rfl .nil) q)
structure Mk (K:PySem.W.Frag) (C f:Addr):Prop where
 makes:PySem.W.makesIn K C=true
 init:PySem.W.findIn K (.ref C) "__init__"=some (some (.ref f))
 fn:PySem.W.isFn K (.ref f)=true
 kp:PySem.W.keepIn K (.ref C)=true
theorem FY{pins:List (Addr×Obj)}{σ:St}{H:Hp}{s:Shared}{Q:VK}{us:List Value}{vs:List V}(M:Mk X.K C f)(F:FnOk X.prog X.w X.K X.mg X.base CX k f fd ps sp)(hr:cn (k+1) X.A)(hb:Binds X.K fd ps ds)(hd:Vals bw ds)
  (hx:Passes CX X E) (I:Inv X pins σ H s) (r:Vals vs us)
  (h:∀x dx,H x=none->H dx=none->dx≠x->sp (.ref x::(vs++bw)) (upd (upd H dx (.own x)) x (.ins C dx [])) (λv H2=>v= .bb/\Q (.ref x) H2) E):
  wpAny (model X.prog X.w) X.A (call (.ref C) us) (EP X pins σ Q) X.xe s:=by
 have hq:=h (s.heap.objs.size+1) s.heap.objs.size (I.hok.fresh (rb _)) (I.hok.fresh (bC _)) (dD (Nat.lt_succ_self _));have I2:=Inv.made (C:=C) I;have r2:Vals (V.ref (s.heap.objs.size+1)::(vs++bw)) (Value.ref (s.heap.objs.size+1)::(us++ds)):= .cons rfl (r.append hd)
 have hl:(Value.ref (s.heap.objs.size+1)::us++ds).length=ps.length:=by
  have e:=r2.length;rw[F.len _ _ _ _ hq] at e;exact e.symm
 refine wpAny_call (Fz (f:=f) I.ik M.makes M.init (beq_iff_eq.mp M.fn) (codeAny_mono (F.run _ X.stack _ _ ⟨Value.ref (s.heap.objs.size+1)::us,[]⟩ (Value.ref (s.heap.objs.size+1)::(us++ds)) _ _ E (hr.make C us [])
  (I2.Nu.make C us []) (hb _ (Value.ref (s.heap.objs.size+1)::us) I2.ik hl) r2 hq) λr s' HM=>?_))
 cases r with
 |error e=>exact hx pins σ _ _ e s' I2 HM
 |ok fl=>
  cases fl with
  |ret u=>
   rfl';obtain⟨v,H',I3,rv,ev,q3⟩:=I2.after HM;subst ev;ac_rfl;exact⟨rv,⟨V.ref (s.heap.objs.size+1),H',I3,rfl,q3⟩⟩
  |next=>exact False.elim HM
  |brk=>exact False.elim HM
  |cont=>exact False.elim HM
theorem IS(M:Mk X.K C f)(F:FnOk X.prog X.w X.K X.mg X.base CX k f fd ps sp)(hr:cn (k+1) X.A)(hg:Gl X x)(hm:X.mg x=some (.ref C))(hb:Binds X.K fd ps ds)(hd:Vals bw ds)(hx:Passes CX X E)
  (ha:PA X (e::es) t) (ij:(x==("__debug__":Str))=false:=by decide) (he:starEach (e::es) X.env=(false,eval e X.env)::starEach es X.env:=by rfl) (eG:(backTo pos (starEach es X.env)).any (·.1)=false:=by rfl):
  PE X (.Call (.Name x p) (e::es) [] pos) (QH C sp bw E t):=by
 intro pins s σ H Q I h;refine wpAny_Call_Name_kw (vd I hg hm ?_ ij);refine PySem.W.callWith_K (h₀:=X.base) I.ok.mod.kin M.kp (thn (ha pos pins s σ H _ I h) λus s1 ⟨vs,H1,I1,r,q⟩=>⟨I1.ik,?_⟩) he eG;exact FY M F hr hb hd hx I1 r q
end
section
variable {X:Cx} {CX:rj} {k:Nat} {f C:Addr} {fd:FuncData} {ps ks:List Str} {sp:Sp} {E:XK} {x m:Str} {p pos apos aaf:Pos} {e o:Expr} {es:List Expr} {kws:List Keyword} {te ta:TE} {t tk:TA} {nm:Option Str}
variable {g:List Value->List Value->List Value} {gV:List V->List V->List V}
end
structure aC (N P:List Str) (sc:Scope):Prop where
 kind:sc.kind= .function
 co:sc.isCoroutine=false
 gen:sc.isGenerator=false
 nd:N.Nodup
 pre:N.take P.length=P
 par:∀x∈P,sc.names.lookup x=some .local\/sc.names.lookup x=some .cell
 nofree:∀y∈sc.names,y.2≠ .free
theorem uw{kindOf:Str->Option NameKind}{x:Str}:∀{binds:List (Str×Value)}{m:Str->Option Value},(∀v,(x,v)∉binds)->bindL kindOf binds m x=m x
 | [],_,_=>rfl
 | (n,v)::r,m,h=>by
  unfold bindL;rw[uw λw hw=>h w (bP _ hw)]
  split
  ·have:x≠n:=by rintro rfl;exact h v b6
   simp[this]
  ·rfl
theorem uu{kindOf:Str->Option NameKind}{x:Str}:∀{binds:List (Str×Value)}{m:Str->Option Value},(∀v,(x,v)∉binds)->bindC kindOf binds m x=m x
 | [],_,_=>rfl
 | (n,v)::r,m,h=>by
  unfold bindC;rw[uu λw hw=>h w (bP _ hw)]
  split
  ·rfl
  ·have:x≠n:=by rintro rfl;exact h v b6
   simp[this]
theorem uv{kindOf:Str->Option NameKind}{x:Str}{v:Value}:∀{P:List Str}{vs:List Value}{i:Nat}{m:Str->Option Value},P.Nodup->P[i]? =some x->vs[i]? =some v->kindOf x=some .local->
  bindL kindOf (P.zip vs) m x=some v
 | [],_,_,_,_,h,_,_=>by simp at h
 |_::_,[],_,_,_,_,h,_=>by simp at h
 |p::P,w::vs,0,m,nd,h1,h2,hk=>by
  simp at h1 h2;subst h1;subst h2;show bindL kindOf ((p,w)::P.zip vs) m p=_;unfold bindL;rw[uw λv hv=>(eE.mp nd).1 (List.of_mem_zip hv).1,if_pos hk];simp
 |p::P,w::vs,i+1,m,nd,h1,h2,hk=>by
  show bindL kindOf ((p,w)::P.zip vs) m x=_;unfold bindL;exact uv (i:=i) (eE.mp nd).2 (by simpa using h1) (by simpa using h2) hk
theorem ur{kindOf:Str->Option NameKind}{x:Str}{v:Value}:∀{P:List Str}{vs:List Value}{i:Nat}{m:Str->Option Value},P.Nodup->P[i]? =some x->vs[i]? =some v->kindOf x≠some .local->
  bindC kindOf (P.zip vs) m x=some v
 | [],_,_,_,_,h,_,_=>by simp at h
 |_::_,[],_,_,_,_,h,_=>by simp at h
 |p::P,w::vs,0,m,nd,h1,h2,hk=>by
  simp at h1 h2;subst h1;subst h2;show bindC kindOf ((p,w)::P.zip vs) m p=_;unfold bindC;rw[uu λv hv=>(eE.mp nd).1 (List.of_mem_zip hv).1,if_neg hk];simp
 |p::P,w::vs,i+1,m,nd,h1,h2,hk=>by
  show bindC kindOf ((p,w)::P.zip vs) m x=_;unfold bindC;exact ur (i:=i) (eE.mp nd).2 (by simpa using h1) (by simpa using h2) hk
def start(N:List Str)(vs:List V):St:=vs.map some++List.replicate (N.length-vs.length) none
def pS(CX:rj)(P:Program)(w:World)(K:PySem.W.Frag)(mg:Str->Option Value)(base:Heap)(N:List Str)(qual:Str)(scope:Scope)(f:Addr)(cd:Value)(A:Around)(outer:List Env)(s:Shared)(H:Hp)(E:XK):Cx where
 prog:=P
 w:=w
 K:=K
 mg:=mg
 base:=base
 A:=A.deeper (envOfC qual scope s.heap.objs.size f cd)
 N:=N
 s₀:=s
 H₀:=H
 env:=envOfC qual scope s.heap.objs.size f cd
 outer:=outer
 stack:=envOfC qual scope s.heap.objs.size f cd::outer
 ex:= []
 calm:=true
 fn:=λ_=>true
 pn:= []
 xe:=λe s'=>wpAny (model P w) (A.deeper (envOfC qual scope s.heap.objs.size f cd)) (leaving (envOfC qual scope s.heap.objs.size f cd) e) (λ_ QA=>CX outer H s E e QA) (λe' QA=>CX outer H s E e' QA) s'
theorem xg{sc:Scope}{n:Nat}{x:Str}(h:sc.names.lookup x=some .cell):∃c,(cellsFrom n sc.names []).lookup x=some c:=by
 have q:=PySem.W.cellsFrom_some sc.names n [] (.inl h);exact Option.isSome_iff_exists.mp q
theorem Cs{CX:rj}{P:Program}{w:World}{K:PySem.W.Frag}{mg:Str->Option Value}{base:Heap}{N ps:List Str}{qual:Str}{scope:Scope}{f:Addr}{cd:Value}{A:Around}{outer:List Env}{s s1:Shared}{H:Hp}{E:XK}{us:List Value}{vs:List V}
  (S:aC N ps scope) (hd:A.handled=none) (e0:Env0 P w K mg base A outer s H) (hl:vs.length=ps.length) (r:Vals vs us)
  (x:InCallC s s.heap.objs.size (bindL (envOfC qual scope s.heap.objs.size f cd).kindOf (ps.zip us) λ_=>none) (cellsFrom (s.heap.objs.size+1) scope.names []) (bindC (envOfC qual scope s.heap.objs.size f cd).kindOf (ps.zip us) λ_=>none) s1):
  Inv (pS CX P w K mg base N qual scope f cd A outer s H E) [] (start N vs) H s1:=by
 have eG:ps.length<=N.length:=by have:=congrArg List.length S.pre;rw[eD] at this;omega
 obtain⟨h1,tk,rfl,hk⟩:=x.done;have Im:∀b:Addr,b∉(pS CX P w K mg base N qual scope f cd A outer s H E).ex:=λb z=>absurd (show b∈([]:List Addr) from z) (by simp)
 refine⟨⟨e0.mod,S.kind,rfl,rfl,bC _,λy z c h1 h2=>?_,λy hy=>?_,λy c _ h=>?_,λ_=>hd,Around.frames_deeper e0.frames, .inr ⟨rfl,rfl⟩,λb z=>absurd z (Im b),e0.bs,e0.bsz,λb _ _=>Im b,λb z=>absurd z (Im b),e0.funs,e0.frf⟩,
  rfl,e0.bare,Un.kept hk,⟨_,x.toInCall.ns,λi y v h1 h2 h3=>?_⟩,λy c h=>⟨_,x.cell y c h⟩,e0.hok.fresh (bC _),λy c h=>?_,λp hp=>absurd (show p∈([]:List (Addr×Obj)) from hp) (by simp),e0.hok.kept hk,?_⟩
 ·exact name_of_addr x.apart (PySem.mem_of_lookup h1) (PySem.mem_of_lookup h2)
 ·have hy:scope.names.lookup y=some .cell\/scope.names.lookup y=some .free:=hy
  rcases hy with hy|hy
  ·exact xg hy
  ·exact absurd rfl (S.nofree _ (PySem.mem_of_lookup hy))
 ·exact qZ (x.above y c (PySem.mem_of_lookup h))
 ·have hi:i<vs.length:=by
   unfold start at h2
   by_cases hi:i<vs.length
   ·exact hi
   ·rw[hU (by simpa using hi)] at h2
    rw[nK] at h2
    split at h2<;>cases h2
  have ha:vs[i]? =some v:=by
   unfold start at h2;rw[gk (by simpa using hi),cA] at h2
   cases e:vs[i]? with
   |none=>rw[e] at h2;cases h2
   |some a=>rw[e] at h2;cases h2;rfl
  obtain⟨u,hu,rv⟩:=r.get ha
  have hp:ps[i]? =some y:=by
   rw[<-S.pre,qT (by omega)];exact h1
  have VJ:ps.Nodup:=by rw[<-S.pre];exact S.nd.sublist (List.take_sublist _ _)
  refine⟨u,rv,?_⟩
  rcases S.par y (e9 hp) with k|k
  ·exact .inl ⟨k,uv VJ hp hu k⟩
  ·obtain⟨c,e⟩:=xg (n:=s.heap.objs.size+1) k
   refine .inr ⟨.inl k,c,e,?_⟩;have q:=x.cell y c e;rw[ur VJ hp hu (by show scope.names.lookup y≠_;rw[k];decide)] at q
   exact q
 ·exact e0.hok.fresh (qZ (x.above y c (PySem.mem_of_lookup h)))
 ·unfold start
  show _=N.length;rw[cx,aG,wg];omega
theorem Pa{CX:rj}{P:Program}{w:World}{K:PySem.W.Frag}{mg:Str->Option Value}{base:Heap}{k:Nat}{f:Addr}{name qual:Str}{params:Arguments}{body:List Stmt}{scope:Scope}{dV kV doc pm bh ct oc:Value}{an od:Option Addr}
  {A8:Array (Option Value)} {N ps:List Str} {sp:Sp} (lk:K.lookup f=some ⟨oc,od, .func (PySem.W.fnOf name qual params body scope dV kV doc pm an bh ct),A8⟩) (dG:PySem.W.codeIn K bh qual=true) (S:aC N ps scope)
  (len:∀vs H Q E,sp vs H Q E->vs.length=ps.length)
  (kY:∀(A:Around)(outer:List Env)(s:Shared)(H:Hp)(vs:List V)(Q:VK)(E:XK),cn k (A.deeper (envOfC qual scope s.heap.objs.size f bh))->sp vs H Q E->
   ∃t,me (pS CX P w K mg base N qual scope f bh A outer s H E) body t/\t {nx:=λ_ H'=>Q .bb H',rt:=Q} (start N vs) H):
  FnOk P w K mg base CX (k+1) f (PySem.W.fnOf name qual params body scope dV kV doc pm an bh ct) ps sp:=by
 refine⟨len,λA outer s H args us vs Q E hr e0 hb r AG=>?_⟩;have hl:=len _ _ _ _ AG;have KX:K.In s.heap:=e0.mod.kin.keeps λb o e=>(e0.bs b o e).1;have lim:s.heap.NoLimit:=e0.mod.nolimit.keeps λb o e=>(e0.bs b o e).1
 have PC:∀y∈ps.zip us,scope.names.lookup y.1=some .local\/(scope.names.lookup y.1=some .cell/\((cellsFrom (s.heap.objs.size+1) scope.names []).lookup y.1).isSome=true):=λ⟨n,v⟩ hy=>by
  rcases S.par n (List.of_mem_zip hy).1 with q|q
  ·exact .inl q
  ·exact .inr ⟨q,PySem.W.cellsFrom_some _ _ _ (.inl q)⟩
 refine codeAny_call_function hr.depth (KX _ _ lk) rfl S.co S.gen rfl (PySem.W.codeRec_of KX dG) (hb _ _ _ _ ?_);refine wpAny_newFunctionEnv_cells S.kind PC λenv he s1 x=>?_;subst he;obtain⟨t,ht,hq⟩:=kY A outer s H vs Q E (hr.deeper _) AG;refine⟨lim.keeps x.toInCall.keep,codeAny_func ?_⟩;have I:Inv (pS CX P w K mg base N qual scope f bh A outer s H E) [] (start N vs) H s1:=Cs S hr.hd e0 hl r x;refine wpAny_mono (ht [] s1 (start N vs) H _ I hq) (λfl s' hs=>?_) λe s' hs=>hs
 have fin:∀{az:St}{H':Hp}{v:V}{u:Value},Inv (pS CX P w K mg base N qual scope f bh A outer s H E) [] az H' s'->RelV v u->Q v H'->CE outer P w H s Q u s':=
  λ {az H' v u} J rv q=>⟨v,H',J.os,J.bare,J.base,J.hok,rv,q⟩
 cases fl with
 |ret u=>
  obtain⟨v,az,H',J,rv,q⟩:=hs;exact fin J rv q
 |next=>
  obtain⟨az,H',J,q⟩:=hs;exact fin (v:=V.bb) (u:=Value.none) J rfl q
 |brk=>
  obtain⟨_,_,_,q⟩:=hs;exact False.elim q
 |cont=>
  obtain⟨_,_,_,q⟩:=hs;exact False.elim q
section
variable {X:Cx} {x:Str} {p pos:Pos} {e:Expr} {es:List Expr} {t:TA} {id T:String} {r:List V->Hp->VK->Prop}
def Yh(r:List V->Hp->VK->Prop)(t:TA):TE:=λσ H Q=>t σ H λvs H1=>r vs H1 Q
theorem rV(hc:eM X (.builtin id) r)(hg:Gl X x)(hm:X.mg x=none)(hv:bootBuiltins x=some (.builtin id))(ha:PA X (e::es) t)(hn:x≠"__name__":=by decide)(ij:(x==("__debug__":Str))=false:=by decide)
  (he:starEach (e::es) X.env=(false,eval e X.env)::starEach es X.env:=by rfl) (eG:(backTo pos (starEach es X.env)).any (·.1)=false:=by rfl):PE X (.Call (.Name x p) (e::es) [] pos) (Yh r t):=by
 intro pins s σ H Q I h;refine wpAny_Call_Name_kw (gz I hg hm hv ?_ hn ij);exact PyProof.Rows.callWith_builtin1 (thn (ha pos pins s σ H _ I h) λus s1 ⟨vs,H1,I1,r1,q1⟩=>hc pins s1 σ H1 vs us Q I1 r1 q1) he eG
theorem CY(hc:eM X (.type T) r)(hg:Gl X x)(hm:X.mg x=none)(hv:bootBuiltins x=some (.type T))(ha:PA X (e::es) t)(hn:x≠"__name__":=by decide)(ij:(x==("__debug__":Str))=false:=by decide)
  (he:starEach (e::es) X.env=(false,eval e X.env)::starEach es X.env:=by rfl) (eG:(backTo pos (starEach es X.env)).any (·.1)=false:=by rfl):PE X (.Call (.Name x p) (e::es) [] pos) (Yh r t):=by
 intro pins s σ H Q I h;refine wpAny_Call_Name_kw (gz I hg hm hv ?_ hn ij);exact PyProof.Rows.callWith_type1 (thn (ha pos pins s σ H _ I h) λus s1 ⟨vs,H1,I1,r1,q1⟩=>hc pins s1 σ H1 vs us Q I1 r1 q1) he eG
end
end L2
namespace HT
open PySem PyProof.Rows
def lexLt:List Int->List Int->Bool
 | [],[]=>false
 | [],_::_=>true
 |_::_,[]=>false
 |x::xs,y::ys=>if x=y then lexLt xs ys else decide (x<y)
theorem jG(x y:Int)(xs ys:List Int):lexLt (x::xs) (y::ys)=if x=y then lexLt xs ys else decide (x<y):=rfl
theorem ve:lexLt [] []=false:=rfl
theorem tJ(y:Int)(ys:List Int):lexLt [] (y::ys)=true:=rfl
theorem tI(x:Int)(xs:List Int):lexLt (x::xs) []=false:=rfl
theorem E7(A:Around)(s:Shared)(a:Int)(t:Tok)(c:Int)(u:Tok):∃e,SeqAt.EqAt A s (.int a t) (.int c u) e/\(e=true↔a=c):=
 ⟨(a==c),SeqAt.EqAt.int_int a t c u,by simp⟩
theorem FW(A:Around)(s:Shared)(a:Int)(t:Tok)(c:Int)(u:Tok)(prog:Program)(w:World)(E:Value->Shared->Prop)(Q:Value->Shared->Prop)(h:Q (.bool (decide (a<c))) s):
  wpAny (model prog w) A (richCompare .Lt (.int a t) (.int c u)) Q E s:=
 (PyProof.Rows.lt_int h:wpAny (model prog w) A (compareOp .Lt (.int a t) (.int c u)) Q E s)
section
open PySem.SeqAt
open PySem.AutoSeq1 (wpAny_loadPart')
open PySem.MeetsSeq PySem.MeetsSeq2 PySem.MeetsSeq3
end
section
variable {prog:Program} {w:World} {A:Around} {E:Value->Shared->Prop} {s:Shared}
theorem GO{t b:Addr}{vs ws:List Value}{Q:Value->Shared->Prop}(ht:IsTup s.heap t vs.toArray)(hb:IsTup s.heap b ws.toArray)(hv:vs≠ [])
  (h1:ws= []->Q (.ref t) s) (h2:ws≠ []->Q (.ref s.heap.objs.size) {s with heap:=s.heap.push {cls:= .type "tuple",data:= .seq (vs++ws).toArray}})
  (wM:vs.length+ws.length<=sizeLine):wpAny (model prog w) A (binaryOp .Add (.ref t) (.ref b)) Q E s:=by
 rfl';obtain⟨⟨cls,dd,data,sl⟩,ho,hc,n,hd⟩:=id ht;obtain⟨⟨R0,yS,data2,vQ⟩,AF,HC,n2,hd2⟩:=id hb;ac_rfl;simp only at hc hd HC hd2;subst hc hd HC hd2;have e:vs.toArray++ws.toArray=(vs++ws).toArray:=by simp
 by_cases hw:ws= []
 ·exact concat_meets ⟨_,ho,rfl⟩ ⟨_,AF,rfl⟩ noFill_tuple_add seq_tuple_add PySem.F.slot_tuple_add PySem.F.entry_tuple_add (PySem.F.args_tuple_add_2 _ _)
   (tuple_addW1 t b vs.toArray ws.toArray n n2 dd yS sl vQ (by simpa using hv) (by simp[hw])) ⟨ho,AF,h1 hw⟩
 ·refine concat_meets ⟨_,ho,rfl⟩ ⟨_,AF,rfl⟩ noFill_tuple_add seq_tuple_add PySem.F.slot_tuple_add PySem.F.entry_tuple_add (PySem.F.args_tuple_add_2 _ _)
   (tuple_addW2 t b vs.toArray ws.toArray n n2 dd yS sl vQ (by simpa using hv) (by simpa using hw) (by rw[cL,cL];exact wM)) ⟨ho,AF,?_⟩
  rw[e];exact h2 hw
def bX(n d:Nat):Option Int->Nat
 |none=>d
 |some v=>if v<0 then(v+(n:Int)).toNat else min v.toNat n
theorem L9(n d:Nat)(hd:d<=n)(o:Option Int):bX n d o<=n:=by
 cases o with
 |none=>exact hd
 |some v=>
  show(if v<0 then(v+(n:Int)).toNat else min v.toNat n)<=n
  by_cases hv:v<0
  ·rw[if_pos hv];omega
  ·rw[if_neg hv];exact Nat.min_le_right _ _
theorem z8(v:Int)(n d:Nat):(if v<0 then max (v+(n:Int)) 0 else min v (n:Int))=((bX n d (some v):Nat):Int):=by
 show(if v<0 then max (v+(n:Int)) 0 else min v (n:Int))=(((if v<0 then(v+(n:Int)).toNat else min v.toNat n):Nat):Int)
 by_cases hv:v<0
 ·simp only[if_pos hv];omega
 ·simp only[if_neg hv];omega
theorem zX(lo hi:Option Int)(n:Nat):Builtin.Slice.sliceAdjust lo hi 1 (n:Int)=(((bX n 0 lo:Nat):Int),((bX n n hi:Nat):Int)):=by
 have h1:¬((1:Int)<0):=by omega
 unfold Builtin.Slice.sliceAdjust;simp only[h1,if_false];refine Prod.ext ?_ ?_
 ·cases lo with
  |none=>rfl
  |some v=>exact z8 v n 0
 ·cases hi with
  |none=>rfl
  |some v=>exact z8 v n n
theorem Be(i j:Nat):Builtin.Slice.slicePlaces (i:Int) (j:Int) 1=j-i:=by
 unfold Builtin.Slice.slicePlaces;have h1:(1:Int)>0:=by omega
 simp only[h1,if_true,Int.ediv_one]
 split<;>omega
theorem sS{v:Value}{o:Option Int}{Q:Option Int->Shared->Prop}(p:IsPart v o)(h:Q o s):wpAny (model prog w) A (Builtin.Slice.slicePartIndex v) Q E s:=by
 cases p with
 |none=>exact slicePart_none h
 |int i t=>exact slicePart_int h
theorem qN{sl:Addr}{vl vu:Value}{lo hi:Option Int}{n:Nat}{Q:Int×Int×Nat->Shared->Prop}(hs:s.heap.IsSliceOf sl vl vu .none)(pl:IsPart vl lo)(pu:IsPart vu hi)
  (h:Q (((bX n 0 lo:Nat):Int),1,bX n n hi-bX n 0 lo) s):wpAny (model prog w) A (Builtin.Slice.sliceApplied (.ref sl) (pure (n:Int))) Q E s:=by
 rfl';obtain⟨os,HK,Cg,Fh⟩:=id hs;ac_rfl;unfold Builtin.Slice.sliceApplied Builtin.Slice.sliceFields;refine wpAny_bind (wpAny_bind (wpAny_field HK Fh (x:=vl) rfl (wpAny_bind (wpAny_field HK Fh (x:=vu) rfl (wpAny_bind (wpAny_field HK Fh (x:= .none) rfl (wpAny_pure ?_)))))));refine wpAny_bind (slicePart_none ?_);rw[if_neg (by decide)]
 refine wpAny_bind (sS pl (wpAny_bind (sS pu (wpAny_bind (wpAny_pure ?_)))));show wpAny _ _ (match Builtin.Slice.sliceAdjust lo hi 1 (n:Int) with| (lo,hi)=>pure (lo,(1:Int),Builtin.Slice.slicePlaces lo hi 1)) _ _ s
 rw[zX lo hi n];show wpAny _ _ (pure (((bX n 0 lo:Nat):Int),(1:Int),Builtin.Slice.slicePlaces ((bX n 0 lo:Nat):Int) ((bX n n hi:Nat):Int) 1)) _ _ s;rw[Be];exact wpAny_pure h
theorem FO(xs:Array Value)(i k:Nat):((List.range k).filterMap λ(m:Nat)=>xs[((i:Int)+(m:Int)*1).toNat]?).toArray=((xs.toList.drop i).take k).toArray:=by
 have e:(λ(m:Nat)=>xs[((i:Int)+(m:Int)*1).toNat]?)=λm=>xs[i+m]? :=by
  funext m
  have:((i:Int)+(m:Int)*1).toNat=i+m:=by omega
  rw[this]
 rw[e]
 have:=pick_run xs i k
 rw[List.filterMap_map] at this;have e2:((λx=>xs[x]?)∘λx=>i+x)=λm=>xs[i+m]? :=rfl;rw[e2] at this;rw[this]
theorem oY{t sl:Addr}{items:Array Value}{vl vu:Value}{lo hi:Option Int}{Q:Value->Shared->Prop}(ht:IsTup s.heap t items)(hs:s.heap.IsSliceOf sl vl vu .none)(pl:IsPart vl lo)(pu:IsPart vu hi)
  (hw:¬(bX items.size 0 lo=0/\bX items.size items.size hi=items.size))
  (h:Q (.ref s.heap.objs.size) {s with heap:=s.heap.push {cls:= .type "tuple",data:= .seq ((items.toList.drop (bX items.size 0 lo)).take (bX items.size items.size hi-bX items.size 0 lo)).toArray}})
  (wM:items.size<=sizeLine):wpAny (model prog w) A (getItem (.ref t) (.ref sl)) Q E s:=by
 have zc:sizeOk (.seq ((items.toList.drop (bX items.size 0 lo)).take (bX items.size items.size hi-bX items.size 0 lo)).toArray):=by
  show((items.toList.drop (bX items.size 0 lo)).take (bX items.size items.size hi-bX items.size 0 lo)).toArray.size<=sizeLine;rw[cL,eD,kN,nM];omega
 have hj:bX items.size items.size hi<=items.size:=L9 _ _ (bC _) hi;obtain⟨os,HK,Cg,Fh⟩:=id hs;have hTs:s.TypeIs (.ref sl) "slice":=⟨os,HK,Cg⟩;unfold getItem
 try with_reducible refine wpAny_holding ?_
 first|refine wpAny_bind (wpAny_pure ?_) |skip
 refine wpAny_bind (wpAny_sequenceKey ht.typeIs (by decide) ?_)
 refine wpAny_bind (wpAny_callSpecial?_slot (name:=Str.ofString "__getitem__") ht.typeIs PyProof.Rows.slot_tuple_getitem
  (wpAny_call_entry PyProof.Rows.slot_tuple_getitem ht.typeIs entry_tuple_getitem ?_ (args_tuple_getitem _ _)))
 show wpAny _ _ (Builtin.Tuple.tupleItemsOf (.ref t)>>=_) _ _ s;refine wpAny_bind (tupleItemsOf_ ht ?_);refine wpAny_bind (wpAny_typeOf hTs ?_);rw[if_pos (by decide)]
 refine wpAny_bind (qN hs pl pu ?_)
 have PL:¬((((bX items.size 0 lo:Nat):Int)==0&&(1:Int)==1&&(bX items.size items.size hi-bX items.size 0 lo)==items.size)=true):=by
  intro q;rw[ma,ma] at q;have q1:((bX items.size 0 lo:Nat):Int)=0:=eq_of_beq q.1.1;have q2:bX items.size items.size hi-bX items.size 0 lo=items.size:=eq_of_beq q.2;exact hw ⟨by omega,by omega⟩
 show wpAny _ _ (if (((bX items.size 0 lo:Nat):Int)==0&&(1:Int)==1&&(bX items.size items.size hi-bX items.size 0 lo)==items.size)=true then _ else _) _ _ s;rw[if_neg PL,FO]
 first
  |exact wpAny_bind (m:=Builtin.Tuple.tupleExact _) (wpAny_newObj_type (wpAny_pure ⟨_,rfl,wpAny_pure h⟩) zc)
  |exact wpAny_bind (m:=Builtin.Tuple.tupleExact _) (wpAny_newObj_type (wpAny_bind (wpAny_pure (wpAny_pure ⟨_,rfl,wpAny_pure h⟩))) zc)
  |exact wpAny_bind (wpAny_bind (m:=Builtin.Tuple.tupleExact _) (wpAny_newObj_type (wpAny_pure (wpAny_pure ⟨_,rfl,wpAny_pure h⟩)) zc))
  |exact wpAny_bind (wpAny_bind (m:=Builtin.Tuple.tupleExact _) (wpAny_newObj_type (wpAny_pure ⟨_,rfl,wpAny_pure h⟩) zc))
end
end HT
namespace L2
open PySem PySem.Spec PyProof.Rows
abbrev TO:=St->Hp->(Option Int->Hp->Prop)->Prop
def PO(X:Cx)(e:Option Expr)(t:TO):Prop:=
 ∀(pins:List (Addr×Obj))(s:Shared)(σ:St)(H:Hp)(Q:Option Int->Hp->Prop),Inv X pins σ H s->t σ H Q->
  wpAny (model X.prog X.w) X.A (evalPart e X.env) (λu s'=>∃o H',Inv X pins σ H' s'/\IsPart u o/\Q o H') X.xe s
def JQ:TO:=λ_ H Q=>Q none H
def QK(t:TE):TO:=λσ H Q=>t σ H λx H1=>∃i,x= .int i/\Q (some i) H1
theorem intsAre_of{ns:List Int}:∀{us:List Value},Vals (ns.map V.int) us->IntsAre us ns:=by
 induction ns with
 |nil=>intro us r;rw[List.map_nil] at r;cases r;exact .nil
 |cons n ns ih=>
  intro us r;rw[iJ] at r;cases r with
  |cons r1 r2=>
   obtain⟨t,e⟩:=r1;subst e;exact .cons n t (ih r2)
section
variable {X:Cx} {e:Expr} {te:TE} {lo hi:Option Expr} {tl th:TO} {pos p2:Pos}
theorem IZ:PO X none JQ:=by
 intro pins s σ H Q I h;rw[evalPart_none];exact wpAny_pure ⟨none,H,I, .none,h⟩
theorem I0(h:PE X e te):PO X (some e) (QK te):=by
 intro pins s σ H Q I hw;rw[evalPart_some];refine thn (h pins s σ H _ I hw) λu s1 bc=>?_;rfl';obtain⟨x,H1,I1,r1,q1⟩:=bc;obtain⟨i,rfl,q⟩:=q1;obtain⟨t,rfl⟩:=r1;ac_rfl;exact⟨some i,H1,I1, .int i t,q⟩
def BS(X:Cx)(r:V->Option Int->Option Int->Hp->VK->Prop):Prop:=
 ∀(pins:List (Addr×Obj))(s:Shared)(σ:St)(H:Hp)(x:V)(v vl vu:Value)(lo hi:Option Int)(sl:Addr)(Q:VK),Inv X pins σ H s->RelV x v->s.heap.IsSliceOf sl vl vu .none->IsPart vl lo->IsPart vu hi->r x lo hi H Q->
  ∃T id,typeLookup (.type T) "__getitem__"=pure (some (.builtin id))/\s.TypeIs v T/\wpAny (model X.prog X.w) X.A (getItem v (.ref sl)) (EP X pins σ Q) X.xe s
theorem BS.or{r r':V->Option Int->Option Int->Hp->VK->Prop}(h:BS X r)(h':BS X r'):BS X (λx lo hi H Q=>r x lo hi H Q\/r' x lo hi H Q):=by
 intro pins s σ H x v vl vu lo hi sl Q I rx hs pl pu q
 rcases q with q|q
 ·exact h pins s σ H x v vl vu lo hi sl Q I rx hs pl pu q
 ·exact h' pins s σ H x v vl vu lo hi sl Q I rx hs pl pu q
def tSl(r:V->Option Int->Option Int->Hp->VK->Prop)(te:TE)(tl th:TO):TE:=λσ H Q=>te σ H λx H1=>tl σ H1 λl H2=>th σ H2 λu H3=>r x l u H3 Q
theorem FL{r:V->Option Int->Option Int->Hp->VK->Prop}(hr:BS X r)(he:PE X e te)(hl:PO X lo tl)(hu:PO X hi th):PE X (.Subscript e (.Slice lo hi none p2) pos) (tSl r te tl th):=by
 intro pins s σ H Q I h;refine Subscript_ (thn (he pins s σ H _ I h) λv s1 bc=>?_);rfl';obtain⟨x,H1,I1,r1,q1⟩:=bc;ac_rfl;refine wpAny_Slice (thn (hl pins s1 σ H1 _ I1 q1) λvl s2 ⟨l,H2,I2,pl,q2⟩=>thn (hu pins s2 σ H2 _ I2 q2) λvu s3 bc=>?_);rfl';obtain⟨u,H3,I3,pu,q3⟩:=bc;ac_rfl;rw[evalPart_none];refine wpAny_pure ?_;have I4:Inv X pins σ H3 {s3 with heap:=s3.heap.push {cls:= .type "slice",data:= .fields #[vl,vu, .none]}}:=I3.kept (t':=s3.toks) λb ob q=>Heap.get?_push_of_some _ q
 obtain⟨T,id,hT,ht,hg⟩:=hr pins {s3 with heap:=s3.heap.push {cls:= .type "slice",data:= .fields #[vl,vu, .none]}} σ H3 x v vl vu l u s3.heap.objs.size Q I4 r1 (Heap.IsSliceOf.new ..) pl pu q3
 exact tail_any (ops:= [.ref s3.heap.objs.size,v]) ht hT hg (by with_unfolding_all rfl)
def sq(xs:List V)(lo hi:Option Int):List V:=(xs.drop (HT.bX xs.length 0 lo)).take (HT.bX xs.length xs.length hi-HT.bX xs.length 0 lo)
theorem pR(xs:List V)(lo hi:Option Int):(sq xs lo hi).length<=xs.length:=by
 unfold sq;rw[eD,kN];omega
def Xw(K:PySem.W.Frag):V->Option Int->Option Int->Hp->VK->Prop:=λx lo hi H Q=>∃a xs,x= .ref a/\gq K H a xs/\
 ¬(HT.bX xs.length 0 lo=0/\HT.bX xs.length xs.length hi=xs.length)/\∀p,H p=none->Q (.ref p) (upd H p (.tup (sq xs lo hi)))
theorem Ma:BS X (Xw X.K):=by
 intro pins s σ H x v vl vu lo hi sl Q I rx hs pl pu h;rfl';obtain⟨a,xs,rfl,hx,hw,q⟩:=h;subst rx;obtain⟨its,r,ht,hz⟩:=I.tuple hx;have hlen:its.toArray.size=xs.length:=by rw[cL];exact r.length.symm
 ac_rfl;refine⟨"tuple",_,PyProof.Rows.slot_tuple_getitem.lookup,ht.typeIs,?_⟩;refine HT.oY ht hs pl pu (by rw[hlen];exact hw) ?_ (by rw[hlen];exact hz)
 rw[hlen];refine⟨.ref s.heap.objs.size,_,I.laid (t':=s.toks) (o:= .tup (sq xs lo hi)) (λb ob q=>Heap.get?_push_of_some _ q) (bC _) ?_,rfl,q _ (I.hok.fresh (bC _))⟩;exact⟨jx (pR xs lo hi) hz,_,(r.drop (HT.bX xs.length 0 lo)).take (HT.bX xs.length xs.length hi-HT.bX xs.length 0 lo),IsTup.new _ _⟩
def Qq(K:PySem.W.Frag):R2:=λx y H Q=>∃a b xs ys,x= .ref a/\y= .ref b/\gq K H a xs/\gq K H b ys/\xs≠ []/\xs.length+ys.length<=sizeLine/\
 (ys= []->Q (.ref a) H)/\(ys≠ []->∀p,H p=none->Q (.ref p) (upd H p (.tup (xs++ys))))
theorem Vals.vo{xs:List V}{us:List Value}(r:Vals xs us):us= []↔xs= []:=by
 cases r with
 |nil=>simp
 |cons _ _=>simp
theorem ID:OpR X (binaryOp .Add) (Qq X.K):=by
 intro pins s σ H x y v u Q I rx ry h;rfl';obtain⟨a,b,xs,ys,rfl,rfl,ha,hb,hx,hz,q1,q2⟩:=h;subst rx;subst ry;obtain⟨its,r1,p1,_⟩:=I.tuple ha;obtain⟨xM,r2,p2,_⟩:=I.tuple hb;ac_rfl;refine HT.GO p1 p2 (λz=>hx (r1.vo.mp z)) (λz=>⟨.ref a,H,I,rfl,q1 (r2.vo.mp z)⟩) (λz=>?_) (by rw[<-r1.length,<-r2.length];exact hz)
 refine⟨.ref s.heap.objs.size,_,I.laid (t':=s.toks) (o:= .tup (xs++ys)) (λb ob q=>Heap.get?_push_of_some _ q) (bC _) ?_,rfl,q2 (λw=>z (r2.vo.mpr w)) _ (I.hok.fresh (bC _))⟩;exact⟨by rw[cx];exact hz,_,r1.append r2,IsTup.new _ _⟩
end
def jj(n:Nat)(i:Int):Option Nat:=if 0<=i then(if i<n then some i.toNat else none) else if-(n:Int)<=i then some (i+n).toNat else none
def fO{α:Type}(xs:List α)(i:Int):Option α:=(jj xs.length i).bind λj=>xs[j]?
theorem AO{n:Nat}{i:Int}{j:Nat}(h:jj n i=some j):seqIndex? i n=some j/\j<n/\-(n:Int)<=i/\i<n:=by
 unfold jj at h
 by_cases h0:0<=i
 ·rw[if_pos h0] at h
  by_cases h1:i<n
  ·rw[if_pos h1] at h
   have e:i.toNat=j:=Option.some.inj h;exact⟨by rw[seqIndex_of h0 h1,e],by omega,by omega,h1⟩
  ·rw[if_neg h1] at h;cases h
 ·rw[if_neg h0] at h
  by_cases h1: -(n:Int)<=i
  ·rw[if_pos h1] at h
   have e:(i+n).toNat=j:=Option.some.inj h;exact⟨by rw[seqIndex_neg (by omega) h1,e],by omega,h1,by omega⟩
  ·rw[if_neg h1] at h;cases h
theorem uq{α:Type}{xs:List α}{i:Int}{v:α}(h:fO xs i=some v):∃j,seqIndex? i xs.length=some j/\xs[j]? =some v/\j<xs.length/\-(xs.length:Int)<=i/\i<xs.length:=by
 unfold fO at h;cases e:jj xs.length i with
 |none=>rw[e] at h;cases h
 |some j=>
  rw[e] at h;obtain⟨h1,h2,h3,h4⟩:=AO e;exact⟨j,h1,h,h2,h3,h4⟩
theorem zY{α:Type}{xs:List α}{j:Nat}{v:α}(h:xs[j]? =some v):fO xs (j:Int)=some v:=by
 have hj:j<xs.length:=(dE.mp h).1
 have e:jj xs.length (j:Int)=some j:=by
  unfold jj;rw[if_pos (by omega),if_pos (by omega)];simp
 unfold fO;rw[e];exact h
def ui(b:Expr):Prop:=∀o i,subscripted b false o i=operate [o,i] (getItem o i)
def BQ(X:Cx)(r:R2):Prop:=
 ∀(value slice:Expr)(pins:List (Addr×Obj))(s:Shared)(σ:St)(H:Hp)(x y:V)(v u:Value)(Q:VK),Inv X pins σ H s->RelV x v->RelV y u->r x y H Q->
  subscripted slice false v u=operate [v,u] (getItem v u)->wpAny (model X.prog X.w) X.A (subscriptTail value slice v u) (EP X pins σ Q) X.xe s
def Kc(X:Cx)(id:String)(r:V->List V->Hp->VK->Prop):Prop:=
 ∀(pins:List (Addr×Obj))(s:Shared)(σ:St)(H:Hp)(x:V)(xs:List V)(v:Value)(us:List Value)(Q:VK),Inv X pins σ H s->RelV x v->Vals xs us->r x xs H Q->
  wpAny (model X.prog X.w) X.A (call (.builtin id) (v::us)) (EP X pins σ Q) X.xe s
section
variable {X:Cx} {a b:Expr} {ta tb:TE} {pos:Pos}
theorem BQ.or{r r':R2}(h:BQ X r)(h':BQ X r'):BQ X (λx y H Q=>r x y H Q\/r' x y H Q):=by
 intro value slice pins s σ H x y v u Q I rx ry q hs
 rcases q with q|q
 ·exact h value slice pins s σ H x y v u Q I rx ry q hs
 ·exact h' value slice pins s σ H x y v u Q I rx ry q hs
theorem IM{r:R2}(hr:BQ X r)(ha:PE X a ta)(hb:PE X b tb)(hs:ui b):PE X (.Subscript a b pos) (JR r ta tb):=by
 intro pins s σ H Q I h;exact Subscript_ (GK ha hb I h λv u s2 x y H2 I2 rx ry q=>hr a b pins s2 σ H2 x y v u Q I2 rx ry q (hs _ _))
def NO(K:PySem.W.Frag):R2:=λx y H Q=>∃p xs i v,x= .ref p/\y= .int i/\bU K H p xs/\fO xs i=some v/\Q v H
def Xr(K:PySem.W.Frag):R2:=λx y H Q=>∃p xs i v,x= .ref p/\y= .int i/\gq K H p xs/\fO xs i=some v/\Q v H
theorem AQ:BQ X (NO X.K):=by
 intro value slice pins s σ H x y v u Q I rx ry h hs;rfl';obtain⟨p,xs,i,z,rfl,rfl,hq,he,q⟩:=h;subst rx;obtain⟨t,rfl⟩:=ry;obtain⟨its,r,pl,hz⟩:=I.list hq;obtain⟨j,h1,h2,h3,h4,h5⟩:=uq he;obtain⟨w,ew,vO⟩:=r.get h2;have hl:=r.length;have hn:=jH;have fin:EP X pins σ Q w s:=⟨z,H,I,vO,q⟩;ac_rfl
 by_cases h0:0<=i
 ·have hj:i.toNat=j:=by
   rw[seqIndex_of h0 h5] at h1;exact Option.some.inj h1
  exact item_listR pl.isList h0 (by omega) (by rw[hj];simpa using ew) fin hs
 ·have hj:(i+(its.toArray.size:Int)).toNat=j:=by
   rw[seqIndex_neg (by omega) h4] at h1
   rw[cL,<-hl];exact Option.some.inj h1
  exact subscriptTail_builtinR (x:=w) pl.isList.typeIs slot_list_getitem.lookup
   (wpAny_getItem_list_neg (Q:=λr s'=>r=w/\EP X pins σ Q r s') pl.isList (by omega) (by rw[cL]<;>omega) (by omega) (by rw[hj];simpa using ew) ⟨rfl,fin⟩) hs
theorem K7:BQ X (Xr X.K):=by
 intro value slice pins s σ H x y v u Q I rx ry h hs;rfl';obtain⟨p,xs,i,z,rfl,rfl,hq,he,q⟩:=h;subst rx;obtain⟨t,rfl⟩:=ry;obtain⟨its,r,pl,hz⟩:=I.tuple hq;obtain⟨j,h1,h2,h3,h4,h5⟩:=uq he;obtain⟨w,ew,vO⟩:=r.get h2;have hl:=r.length;have hn:=jH;have fin:EP X pins σ Q w s:=⟨z,H,I,vO,q⟩;ac_rfl
 exact subscriptTail_builtinR (x:=w) pl.typeIs slot_tuple_getitem.lookup
  (getItem_tuple (j:=j) (Q:=λr s'=>r=w/\EP X pins σ Q r s') pl (by omega) (by omega) (by rw[cL,<-hl];exact h1) (by simpa using ew) ⟨rfl,fin⟩) hs
theorem A1(its:List Value)(n j:Nat)(u:Value):Obj.mapSeq (·.setIfInBounds j u) {cls:= .type "list",data:= .seq its.toArray n}={cls:= .type "list",data:= .seq (its.set j u).toArray n}:=by
 simp[Obj.mapSeq]
theorem Inv.lst{pins:List (Addr×Obj)}{σ:St}{H:Hp}{s:Shared}{p:Addr}{xs:List V}(I:Inv X pins σ H s)(h:H p=some (.lst xs)):
  ∃(its:List Value)(n:Nat),Vals xs its/\s.heap.get? p=some {cls:= .type "list",data:= .seq its.toArray n}/\xs.length<=sizeLine:=by
 obtain⟨z,its,n,r,e⟩:=I.hok p _ h;exact⟨its,n,r,e,z⟩
theorem Inv.Lm{pins:List (Addr×Obj)}{σ:St}{H:Hp}{s:Shared}{p:Addr}{xs ys:List V}{its its':List Value}{n n':Nat}{f:Obj->Obj}(I:Inv X pins σ H s)(h:H p=some (.lst xs))
  (ho:s.heap.get? p=some {cls:= .type "list",data:= .seq its.toArray n}) (hf:f {cls:= .type "list",data:= .seq its.toArray n}={cls:= .type "list",data:= .seq its'.toArray n'}) (r:Vals ys its') (hz:ys.length<=sizeLine) (t:Nat):
  Inv X pins σ (upd H p (.lst ys)) {s with heap:=s.heap.update p f,toks:=t}:=by
 have e:(s.heap.update p f).get? p=some {cls:= .type "list",data:= .seq its'.toArray n'}:=by
  rw[Heap.get?_update_self f ho (by rw[hf]<;>rfl),hf]
 refine I.write (x:=p) (e:=p) (by rw[h];trivial) (.inl rfl) (λb u hb q=>(Heap.get?_update_other _ _ (Ne.symm hb)).trans q) ⟨_,e⟩ ?_
 exact⟨hz,its',n',r,e⟩
def Qs:V->V->V->Hp->(Hp->Prop)->Prop:=λo i v H Q=>∃p xs k j,o= .ref p/\i= .int k/\H p=some (.lst xs)/\jj xs.length k=some j/\Q (upd H p (.lst (xs.set j v)))
theorem set_list:Gu X Qs:=by
 intro pins s σ H o i v ov iv u Q I ro ri rv h;rfl';obtain⟨p,xs,k,j,rfl,rfl,hp,hj,q⟩:=h;subst ro;obtain⟨t,rfl⟩:=ri;obtain⟨its,n,r,ho,hz⟩:=I.lst hp;obtain⟨h1,h2,h3,h4⟩:=AO hj;have hl:=r.length;have hn:=jH;ac_rfl
 have I':Inv X pins σ (upd H p (.lst (xs.set j v))) {s with heap:=s.heap.update p (Obj.mapSeq (·.setIfInBounds j u))}:=
  I.Lm hp ho (A1 its n j u) (r.set rv j) (by rw[dB];exact hz) s.toks
 by_cases h0:0<=k
 ·have hk:k.toNat=j:=by
   rw[seqIndex_of h0 h4] at h1;exact Option.some.inj h1
  exact PySem.W.ki_setAt ho h0 (by omega) (by rw[cL,<-hl];exact h4) (by rw[hk];exact⟨_,I',q⟩)
 ·have hk:(k+(its.toArray.size:Int)).toNat=j:=by
   rw[seqIndex_neg (by omega) h3] at h1
   rw[cL,<-hl];exact Option.some.inj h1
  exact PySem.W.ki_setBack ho (by omega) (by rw[cL,<-hl];exact h3) (by omega) (by rw[hk];exact⟨_,I',q⟩)
theorem wX(lo hi:Option Int)(n:Nat):(sliceBounds lo hi none n).1=((HT.bX n 0 lo:Nat):Int)/\(sliceBounds lo hi none n).2.1=((HT.bX n n hi:Nat):Int)/\(sliceBounds lo hi none n).2.2=1:=by
 refine⟨?_,?_,rfl⟩
 ·cases lo with
  |none=>simp[sliceBounds,HT.bX]
  |some i=>
   simp only[sliceBounds,HT.bX,Option.getD_none,show(1:Int)>0 by decide,if_true]
   by_cases h:i<0
   ·simp only[h,if_true]<;>omega
   ·simp only[h,if_false]<;>omega
 ·cases hi with
  |none=>simp[sliceBounds,HT.bX]
  |some i=>
   simp only[sliceBounds,HT.bX,Option.getD_none,show(1:Int)>0 by decide,if_true]
   by_cases h:i<0
   ·simp only[h,if_true]<;>omega
   ·simp only[h,if_false]<;>omega
theorem vR(its:List Value)(lo hi:Option Int):slicePick its.toArray lo hi none=((its.drop (HT.bX its.length 0 lo)).take (HT.bX its.length its.length hi-HT.bX its.length 0 lo)).toArray:=by
 obtain⟨h1,h2,h3⟩:=wX lo hi its.toArray.size;unfold slicePick;rw[h1,h2,h3];simp only[sliceRange_one,pick_run,cL]<;>rfl
def Xv(K:PySem.W.Frag):V->Option Int->Option Int->Hp->VK->Prop:=λx lo hi H Q=>∃a xs,x= .ref a/\bU K H a xs/\∀p,H p=none->Q (.ref p) (upd H p (.lst (sq xs lo hi)))
theorem Ju:BS X (Xv X.K):=by
 intro pins s σ H x v vl vu lo hi sl Q I rx hs pl pu h;rfl';obtain⟨a,xs,rfl,hx,q⟩:=h;subst rx;obtain⟨its,r,ht,hz⟩:=I.list hx;have hlen:=r.length;ac_rfl;refine⟨"list",_,slot_list_getitem.lookup,ht.isList.typeIs,?_⟩;refine wpAny_getItem_list_slice ht.isList hs pl pu .none (by simp) ?_ (by rw[cL]<;>omega)
 rw[vR,<-hlen];refine⟨.ref s.heap.objs.size,_,I.laid (t':=s.toks) (o:= .lst (sq xs lo hi)) (λb ob q=>Heap.get?_push_of_some _ q) (bC _) ?_,rfl,q _ (I.hok.fresh (bC _))⟩;exact⟨jx (pR xs lo hi) hz,_,0,(r.drop (HT.bX xs.length 0 lo)).take (HT.bX xs.length xs.length hi-HT.bX xs.length 0 lo),Heap.get?_push_size _ rfl⟩
def gx:V->Bool
 | .bb=>true
 | .bl _=>true
 | .int _=>true
 | .str _=>true
 |_=>false
def uQ:V->V->Bool
 | .bb, .bb=>true
 | .bl a, .bl b=>a==b
 | .bl a, .int b=>(if a then 1 else 0)==b
 | .int a, .bl b=>a==(if b then 1 else 0)
 | .int a, .int b=>a==b
 | .str a, .str b=>a==b
 |_,_=>false
theorem KG{A:Around}{s:Shared}{y x:V}{u v:Value}(ry:RelV y u)(rx:RelV x v)(fy:gx y=true)(fx:gx x=true):SeqAt.EqAt A s u v (uQ y x):=by
 cases y with
 |bb=>
  cases ry;cases x with
  |bb=>cases rx;exact SeqAt.EqAt.same _
  |bl b=>cases rx;exact SeqAt.EqAt.none_bool b
  |int b=>obtain⟨t,rfl⟩:=rx;exact SeqAt.EqAt.none_int b t
  |str b=>obtain⟨t,rfl⟩:=rx;exact SeqAt.EqAt.none_str b t
  |_=>exact absurd (show false=true from fx) cK
 |bl a=>
  subst ry;cases x with
  |bb=>cases rx;exact SeqAt.EqAt.bool_none a
  |bl b=>cases rx;exact SeqAt.EqAt.bool_bool a b
  |int b=>obtain⟨t,rfl⟩:=rx;exact SeqAt.EqAt.bool_int a b t
  |str b=>obtain⟨t,rfl⟩:=rx;exact SeqAt.EqAt.bool_str a b t
  |_=>exact absurd (show false=true from fx) cK
 |int a=>
  obtain⟨t',rfl⟩:=ry;cases x with
  |bb=>cases rx;exact SeqAt.EqAt.int_none a t'
  |bl b=>cases rx;exact SeqAt.EqAt.int_bool a t' b
  |int b=>obtain⟨t,rfl⟩:=rx;exact SeqAt.EqAt.int_int a t' b t
  |str b=>obtain⟨t,rfl⟩:=rx;exact SeqAt.EqAt.int_str a t' b t
  |_=>exact absurd (show false=true from fx) cK
 |str a=>
  obtain⟨t',rfl⟩:=ry;cases x with
  |bb=>cases rx;exact SeqAt.EqAt.str_none a t'
  |bl b=>cases rx;exact SeqAt.EqAt.str_bool a t' b
  |int b=>obtain⟨t,rfl⟩:=rx;exact SeqAt.EqAt.str_int a t' b t
  |str b=>obtain⟨t,rfl⟩:=rx;exact SeqAt.EqAt.str_str a t' b t
  |_=>exact absurd (show false=true from fx) cK
 |_=>exact absurd (show false=true from fy) cK
def n6(x:V)(u:Value):Bool:=match u with
 | .none=>uQ .bb x
 | .bool b=>uQ (.bl b) x
 | .int i _=>uQ (.int i) x
 | .str z _=>uQ (.str z) x
 |_=>false
theorem t8{x y:V}{u:Value}(r:RelV y u)(f:gx y=true):n6 x u=uQ y x:=by
 cases y with
 |bb=>cases r;rfl
 |bl b=>cases r;rfl
 |int i=>obtain⟨t,rfl⟩:=r;rfl
 |str z=>obtain⟨t,rfl⟩:=r;rfl
 |_=>exact absurd (show false=true from f) cK
theorem mz{x:V}:∀{xs:List V}{us:List Value},Vals xs us->xs.all gx=true->us.any (n6 x)=xs.any λy=>uQ y x
 |_,_, .nil,_=>rfl
 |y::xs,u::us, .cons r t,f=>by
  rw[r6,ma] at f;rw[List.any_cons,List.any_cons,t8 r f.1,mz t f.2]
theorem iY{A:Around}{s:Shared}{x:V}{v:Value}(rx:RelV x v)(fx:gx x=true):∀{xs:List V}{us:List Value},Vals xs us->xs.all gx=true->∀u∈us,SeqAt.EqAt A s u v (n6 x u)
 |_,_, .nil,_=>λu hu=>by cases hu
 |y::xs,u::us, .cons r t,f=>λu' hu=>by
  rw[r6,ma] at f
  rcases cm.mp hu with rfl|hu
  ·rw[t8 r f.1];exact KG r rx f.1 fx
  ·exact iY rx fx t f.2 u' hu
def K5(x:V)(xs:List V):Bool:=xs.any λy=>uQ y x
def Qr(K:PySem.W.Frag)(neg:Bool):R2:=λx y H Q=>∃p xs,y= .ref p/\(bU K H p xs\/gq K H p xs)/\gx x=true/\xs.all gx=true/\Q (.bl (if neg then !K5 x xs else K5 x xs)) H
theorem CU:OpR X (compareOp .In) (Qr X.K false):=by
 intro pins s σ H x y v u Q I rx ry h;rfl';obtain⟨p,xs,rfl,hq,fx,fs,q⟩:=h;subst ry;ac_rfl
 rcases hq with hq|hq
 ·obtain⟨its,r,pl,hz⟩:=I.list hq
  refine SeqAt.in_listAt (n6 x) pl.isList (λw hw=>iY rx fx r fs w (by simpa using hw)) ⟨.bl _,H,I,rfl,?_⟩
  rw[show its.toArray.any (n6 x)=its.any (n6 x) by simp,mz r fs]
  exact q
 ·obtain⟨its,r,pl,hz⟩:=I.tuple hq
  refine SeqAt.in_tupleAt (n6 x) pl (λw hw=>iY rx fx r fs w (by simpa using hw)) ⟨.bl _,H,I,rfl,?_⟩
  rw[show its.toArray.any (n6 x)=its.any (n6 x) by simp,mz r fs]
  exact q
theorem wV:OpR X (compareOp .NotIn) (Qr X.K true):=by
 intro pins s σ H x y v u Q I rx ry h;rfl';obtain⟨p,xs,rfl,hq,fx,fs,q⟩:=h;subst ry;ac_rfl
 rcases hq with hq|hq
 ·obtain⟨its,r,pl,hz⟩:=I.list hq
  refine SeqAt.notIn_listAt (n6 x) pl.isList (λw hw=>iY rx fx r fs w (by simpa using hw)) ⟨.bl _,H,I,rfl,?_⟩
  rw[show its.toArray.any (n6 x)=its.any (n6 x) by simp,mz r fs]
  exact q
 ·obtain⟨its,r,pl,hz⟩:=I.tuple hq
  refine SeqAt.notIn_tupleAt (n6 x) pl (λw hw=>iY rx fx r fs w (by simpa using hw)) ⟨.bl _,H,I,rfl,?_⟩
  rw[show its.toArray.any (n6 x)=its.any (n6 x) by simp,mz r fs]
  exact q
theorem wC:eM X (.builtin "len") (λxs H Q=>∃p ys,xs= [.ref p]/\(bU X.K H p ys\/gq X.K H p ys)/\Q (.int ys.length) H):=by
 intro pins s σ H xs us Q I r h;rfl';obtain⟨p,ys,rfl,hq,q⟩:=h;obtain⟨u,rfl,rx⟩:=vals1 r;subst rx;have hn:=jH;ac_rfl
 rcases hq with hq|hq
 ·obtain⟨its,r',pl,hz⟩:=I.list hq
  have hlen:=r'.length;exact Calls.call_len_list pl.isList (by simp only[cL]<;>omega) ⟨.int ys.length,H,I.tok _,⟨s.toks+1,by rw[cL,hlen]⟩,q⟩
 ·obtain⟨its,r',pl,hz⟩:=I.tuple hq
  have hlen:=r'.length;exact len_tuple pl (by simp only[cL]<;>omega) ⟨.int ys.length,H,I.tok _,⟨s.toks+1,by rw[cL,hlen]⟩,q⟩
theorem wD:eM X (.type "list") (λxs H Q=>∃p ys,xs= [.ref p]/\(bU X.K H p ys\/gq X.K H p ys)/\∀l,H l=none->Q (.ref l) (upd H l (.lst ys))):=by
 intro pins s σ H xs us Q I r h;obtain⟨p,ys,rfl,hq,q⟩:=h;obtain⟨u,rfl,rx⟩:=vals1 r;subst rx
 have fin:∀(its:List Value),Vals ys its->ys.length<=sizeLine->∀(h':Heap)(c':Nat),(∀b o',s.heap.get? b=some o'->h'.get? b=some o')->
   h'.get? s.heap.objs.size=some {cls:= .type "list",dict:=none,data:= .seq its.toArray c',slots:= #[]}->EP X pins σ Q (.ref s.heap.objs.size) {s with heap:=h'}:=λits r' hz h' c' kp e=>
  ⟨.ref s.heap.objs.size,_,I.laid (t':=s.toks) kp (bC _) (show cP X.prog X.w _ h' _ (.lst ys) from⟨hz,its,c',r',e⟩),rfl,q _ (I.hok.fresh (bC _))⟩
 rcases hq with hq|hq
 ·obtain⟨its,r',pl,hz⟩:=I.list hq
  have hlen:=r'.length;obtain⟨o,ho,hc,n,hd⟩:=pl.isList;exact call_list_seq p (.inl rfl) ho hc hd (λh' c' kp e=>fin its r' hz h' c' kp e) (by simp only[cL]<;>omega)
 ·obtain⟨its,r',pl,hz⟩:=I.tuple hq
  have hlen:=r'.length;obtain⟨o,ho,hc,n,hd⟩:=pl;exact call_list_seq p (.inr rfl) ho hc hd (λh' c' kp e=>fin its r' hz h' c' kp e) (by simp only[cL]<;>omega)
def Mu(K:PySem.W.Frag)(T:String)(x:V)(H:Hp):Prop:=match x with
 | .str _=>T="str"
 | .int _=>T="int"
 | .ref p=>(T="list"/\∃xs,bU K H p xs)\/(T="tuple"/\∃o,K.lookup p=some o/\o.cls= .type "tuple"/\o.dict=none)\/
   (T="dict"/\((∃eH,H p=some (.dK eH))\/∃eH,H p=some (.dT eH)))\/(T="set"/\∃S n,H p=some (.set S n))
 |_=>False
theorem EJ{pins:List (Addr×Obj)}{σ:St}{H:Hp}{s:Shared}{T:String}{x:V}{v:Value}(I:Inv X pins σ H s)(r:RelV x v)(ty:Mu X.K T x H):
  s.TypeIs v T/\∀a,v= .ref a->∃ob,s.heap.get? a=some ob/\ob.dict=none:=by
 cases x with
 |str z=>
  obtain⟨t,rfl⟩:=r;cases(show T="str" from ty);exact⟨typeIs_str s z t,λ_ e=>nomatch e⟩
 |int i=>
  obtain⟨t,rfl⟩:=r;cases(show T="int" from ty);exact⟨typeIs_int s i t,λ_ e=>nomatch e⟩
 |ref p=>
  subst r
  rcases ty with ⟨rfl,xs,hq⟩ | ⟨rfl,o,hk,hc,hd⟩ | ⟨rfl,hk⟩ | ⟨rfl,S,n,hk⟩
  ·obtain⟨its,_,pl,_⟩:=I.list hq
   refine⟨pl.isList.typeIs,λa e=>?_⟩;cases e;obtain⟨o,n,e,c,hd,_⟩:=pl;exact⟨o,e,hd⟩
  ·refine⟨⟨o,I.ik p o hk,hc⟩,λa e=>?_⟩
   cases e;exact⟨o,I.ik _ o hk,hd⟩
  ·have z:∃o,s.heap.get? p=some o/\o.ExactDict:=by
    rcases hk with ⟨eH,hk⟩ | ⟨eH,hk⟩
    ·obtain⟨_,_,_,_,o,_,_,e,ex,_⟩:=I.hok p _ hk
     exact⟨o,e,ex⟩
    ·obtain⟨_,_,_,_,o,_,_,e,ex,_⟩:=I.hok p _ hk
     exact⟨o,e,ex⟩
   obtain⟨o,e,ex⟩:=z;refine⟨⟨o,e,ex.1⟩,λa e2=>?_⟩;cases e2;exact⟨o,e,ex.2.1⟩
  ·obtain⟨o,_,_,_,e,ex,_⟩:=I.hok p _ hk
   refine⟨⟨o,e,ex.1⟩,λa e2=>?_⟩;cases e2;exact⟨o,e,ex.2.1⟩
 |_=>exact False.elim ty
def Yf(K:PySem.W.Frag)(T:String)(r:V->List V->Hp->VK->Prop)(to:TE):TE:=λσ H Q=>to σ H λx H1=>Mu K T x H1/\r x [] H1 Q
def tBM(K:PySem.W.Frag)(T:String)(r:V->List V->Hp->VK->Prop)(to:TE)(t:TA):TE:=λσ H Q=>to σ H λx H1=>Mu K T x H1/\t σ H1 λxs H2=>r x xs H2 Q
variable {o e:Expr} {es:List Expr} {to:TE} {t:TA} {name:Str} {apos aU:Pos} {T id:String} {r:V->List V->Hp->VK->Prop}
theorem LH(pa:PlainAttrs T)(slot:Slot T name id)(HN:typeOf (.builtin id)=pure (.type "method_descriptor"))(hm:Kc X id r)(ho:PE X o to)
  (fq:attributeBase o name X.env (eval o X.env)=eval o X.env:=by rfl) (eU:(apos.endLine==aU.line)=true:=by rfl):PE X (.Call (.Attribute o name apos) [] [] aU) (Yf X.K T r to):=by
 intro pins s σ H Q I h;refine wpAny_Call_method0_late fq eU (thn (ho pins s σ H _ I h) λv s1 bc=>?_);rfl';obtain⟨x,H1,I1,r1,ty,q1⟩:=bc;obtain⟨h1,h2⟩:=EJ I1 r1 ty;ac_rfl;exact⟨T,id,pa,slot,HN,h1,h2,Calls.callWith_builtin rfl (PySem.evalArgs_none (hm pins s1 σ H1 x [] v [] Q I1 r1 .nil q1))⟩
theorem zB(pa:PlainAttrs T)(slot:Slot T name id)(HN:typeOf (.builtin id)=pure (.type "method_descriptor"))(hm:Kc X id r)(ho:PE X o to)(ha:PA X (e::es) t)
  (fq:attributeBase o name X.env (eval o X.env)=eval o X.env:=by rfl)
  (ku:((backTo aU (starEach (e::es) X.env)).all (λx=>!x.1)&&(backToKw aU (keywordEach [] X.env)).all (λx=>x.1.isSome)
   &&decide ((e::es).length+([]:List Keyword).length+(if ([]:List Keyword).isEmpty then 0 else 1)<30))=true:=by rfl)
  (eU:(apos.endLine==aU.line)=true:=by rfl) (hs:starEach (e::es) X.env=(false,eval e X.env)::starEach es X.env:=by rfl) (fF:(backTo aU (starEach es X.env)).any (·.1)=false:=by rfl):
  PE X (.Call (.Attribute o name apos) (e::es) [] aU) (tBM X.K T r to t):=by
 intro pins s σ H Q I h;refine wpAny_Call_method_late fq ku eU rfl (thn (ho pins s σ H _ I h) λv s1 bc=>?_);rfl';obtain⟨x,H1,I1,r1,ty,q1⟩:=bc;obtain⟨h1,h2⟩:=EJ I1 r1 ty;ac_rfl;refine⟨T,id,pa,slot,HN,h1,h2,?_⟩;have hA:=ha aU pins s1 σ H1 _ I1 q1;rw[hs] at hA ⊢;refine Calls.callWith_builtin (by show(false|| (backTo aU (starEach es X.env)).any (·.1))=false;rw[fF]<;>rfl) (Calls.evalArgs_plain ?_)
 exact thn hA λus s2 ⟨vs,H2,I2,r2,q2⟩=>hm pins s2 σ H2 x vs v us Q I2 r1 r2 q2
end
def Kb(X:Cx)(id:String)(r:V->List V->Hp->VK->Prop):Prop:=
 ∀(pins:List (Addr×Obj))(s:Shared)(σ:St)(H:Hp)(x:V)(xs:List V)(v:Value)(us:List Value)(Q:VK),Inv X pins σ H s->RelV x v->Vals xs us->r x xs H Q->
  wpAny (model X.prog X.w) X.A (call (.builtin id) (v::us)) (EP X pins σ Q) X.xe s
theorem Vals.one{x:V}{us:List Value}(h:Vals [x] us):∃u,us= [u]/\RelV x u:=by
 cases h with|cons r t=>cases t;exact⟨_,rfl,r⟩
theorem Vals.two{x y:V}{us:List Value}(h:Vals [x,y] us):∃u v,us= [u,v]/\RelV x u/\RelV y v:=by
 cases h with
 |cons r t=>
  obtain⟨v,rfl,q⟩:=Vals.one t;exact⟨_,v,rfl,r,q⟩
theorem Vals.zero:∀{us:List Value},Vals [] us->us= []
 |_, .nil=>rfl
theorem Vals.dropLast{xs:List V}{us:List Value}(h:Vals xs us):Vals xs.dropLast us.dropLast:=by
 induction h with
 |nil=>exact .nil
 |cons r t ih=>
  cases t with
  |nil=>exact .nil
  |cons q t'=>exact .cons r ih
theorem Vals.rep{xs:List V}{us:List Value}(h:Vals xs us):∀k:Nat,Vals (List.replicate k xs).flatten (List.replicate k us).flatten
 |0=> .nil
 |k+1=>by
  rw[oK,oK,nN,nN];exact Vals.append h (Vals.rep h k)
theorem Ar{α:Type}(l:List α):l.eraseIdx (l.length-1)=l.dropLast:=by
 induction l with
 |nil=>rfl
 |cons a r ih=>
  cases r with
  |nil=>rfl
  |cons b r=>
   have e:(a::b::r).length-1=((b::r).length-1)+1:=by
    have h1:(a::b::r).length=r.length+2:=rfl;have h2:(b::r).length=r.length+1:=rfl;omega
   rw[e,List.eraseIdx_cons_succ,ih]
   all_goals rfl
theorem foldl_rep(its:List Value):∀(k:Nat)(acc:List Value),
  List.foldl (λx1 x2=>x1++x2) acc.toArray (List.replicate k its.toArray)=(acc++(List.replicate k its).flatten).toArray
 |0,acc=>by simp
 |k+1,acc=>by
  have e:acc.toArray++its.toArray=(acc++its).toArray:=by simp
  have e2:(acc++its)++(List.replicate k its).flatten=acc++(List.replicate (k+1) its).flatten:=by
   rw[oK,nN,td]
  rw[<-e2,<-foldl_rep its k (acc++its),<-e,oK,List.foldl_cons]
section
variable {X:Cx} {pins:List (Addr×Obj)} {σ:St} {H:Hp} {s:Shared} {l b:Addr} {xs ys zs:List V}
theorem Inv.Ib{its its':List Value}{n:Nat}{f:Array Value->Array Value}{t':Nat}(I:Inv X pins σ H s)(hH:H l=some (.lst xs))
  (e:s.heap.get? l=some {cls:= .type "list",data:= .seq its.toArray n}) (hf:f its.toArray=its'.toArray) (hv:Vals ys its') (hz:ys.length<=sizeLine):
  Inv X pins σ (upd H l (.lst ys)) {s with heap:=s.heap.update l (Obj.mapSeq f),toks:=t'}:=by
 have q:=PySem.IsL.update e f;rw[hf] at q;refine I.write (x:=l) (e:=l) (by rw[hH];exact trivial) (.inl rfl) (λb' u hb hu=>(Heap.get?_update_other s.heap (Obj.mapSeq f) (Ne.symm hb)).trans hu) ⟨_,q⟩ ?_
 exact⟨hz,its',_,hv,q⟩
theorem Inv.El{its:List Value}{t':Nat}(I:Inv X pins σ H s)(hv:Vals ys its)(hz:ys.length<=sizeLine):
  Inv X pins σ (upd H s.heap.objs.size (.lst ys)) {s with heap:=s.heap.push {cls:= .type "list",data:= .seq its.toArray},toks:=t'}:=
 I.laid (λ_ _ q=>Heap.get?_push_of_some _ q) (bC _) ⟨hz,its,0,hv,Heap.get?_push_size _ rfl⟩
theorem Inv.fresh(I:Inv X pins σ H s):H s.heap.objs.size=none:=I.hok.fresh (bC _)
theorem Inv.sM(I:Inv X pins σ H s)(hH:H l=some (.lst xs)):xs.length<=sizeLine/\∃(its:List Value)(n:Nat),Vals xs its/\xs.length=its.length/\s.heap.get? l=some {cls:= .type "list",data:= .seq its.toArray n}:=by
 obtain⟨z,its,n,r,e⟩:=I.hok l _ hH;exact⟨z,its,n,r,r.length,e⟩
theorem FD{n:Nat}(h:n<=sizeLine):Builtin.List.listTooLong n=false:=by
 unfold Builtin.List.listTooLong;exact decide_eq_false (by omega)
end
section
variable {X:Cx}
def Jk:V->List V->Hp->VK->Prop:=λx vs H Q=>∃l xs y,x= .ref l/\vs= [y]/\H l=some (.lst xs)/\xs.length<sizeLine/\Q .bb (upd H l (.lst (xs++ [y])))
theorem lg:Kb X "list.append" Jk:=by
 intro pins s σ H x vs v us Q I rx rv h;rfl';obtain⟨l,xs,y,rfl,rfl,hH,hz,q⟩:=h;subst rx;obtain⟨u,rfl,ru⟩:=rv.one;obtain⟨z,its,n,r,hl,e⟩:=I.sM hH;ac_rfl;refine call_meets F.slot_list_append ⟨_,e,rfl⟩ F.entry_list_append (F.args_list_append_2 _ _) (PySem.list_append l its.toArray n u (by rw[cL];omega)) ⟨e,?_⟩
 refine⟨.bb,_,I.Ib (its':=its++ [u]) hH e (by simp) (r.append (.cons ru .nil)) ?_,rfl,q⟩
 rw[cx,wj];omega
def Xt:V->List V->Hp->VK->Prop:=λx vs H Q=>∃l xs y,x= .ref l/\vs= []/\H l=some (.lst xs)/\xs[xs.length-1]? =some y/\Q y (upd H l (.lst xs.dropLast))
theorem Lo:Kb X "list.pop" Xt:=by
 intro pins s σ H x vs v us Q I rx rv h;rfl';obtain⟨l,xs,y,rfl,rfl,hH,hy,q⟩:=h;subst rx;have hus:=rv.zero;subst hus;obtain⟨z,its,n,r,hl,e⟩:=I.sM hH;obtain⟨u,hu,ru⟩:=r.get hy;ac_rfl
 have AH:its.toArray[its.toArray.size-1]? =some u:=by
  show its.toArray[its.length-1]? =some u;rw[<-kL,<-hl];exact hu
 refine call_meets F.slot_list_pop ⟨_,e,rfl⟩ F.entry_list_pop (F.args_list_pop_1 _) (MeetsSeq.list_pop_last l its.toArray n u AH (by rw[cL];omega)) ⟨e,?_⟩
 refine⟨y,_,I.Ib (its':=its.dropLast) hH e ?_ r.dropLast ?_,ru,q⟩
 ·show its.toArray.eraseIdxIfInBounds (its.toArray.size-1)=its.dropLast.toArray
  rw[cL,List.eraseIdxIfInBounds_toArray,Ar]
 ·rw[List.length_dropLast]
  omega
def Xp:R2:=λx y H Q=>∃l b xs zs,x= .ref l/\y= .ref b/\H l=some (.lst xs)/\H b=some (.lst zs)/\xs.length+zs.length<=sizeLine/\∀p,H p=none->Q (.ref p) (upd H p (.lst (xs++zs)))
theorem zy:OpR X (binaryOp .Add) Xp:=by
 intro pins s σ H x y v u Q I rx ry h;rfl';obtain⟨l,b,xs,zs,rfl,rfl,hH,hB,hz,q⟩:=h;subst rx;subst ry;obtain⟨z,its,n,r,hl,e⟩:=I.sM hH;obtain⟨z2,xM,n2,r2,PD,e2⟩:=I.sM hB;ac_rfl;refine PySem.P.add_list e e2 ?_ (by rw[cL,cL];omega)
 have ea:its.toArray++xM.toArray=(its++xM).toArray:=by simp
 rw[ea];exact⟨.ref _,_,I.El (t':=s.toks) (r.append r2) (by rw[cx];omega),rfl,q _ I.fresh⟩
def Xu:R2:=λx y H Q=>∃l k xs,x= .ref l/\y= .int k/\H l=some (.lst xs)/\-(2^63)<=k/\k<2^63/\xs.length*k.toNat<=sizeLine/\
 ∀p,H p=none->Q (.ref p) (upd H p (.lst (List.replicate k.toNat xs).flatten))
theorem len_rep{α:Type}(xs:List α)(k:Nat):(List.replicate k xs).flatten.length=k*xs.length:=by
 induction k with
 |zero=>simp
 |succ k ih=>rw[oK,nN,cx,ih,Nat.succ_mul,Nat.add_comm]
theorem LD:OpR X (binaryOp .Mult) Xu:=by
 intro pins s σ H x y v u Q I rx ry h;rfl';obtain⟨l,k,xs,rfl,rfl,hH,h1,h2,hz,q⟩:=h;subst rx;obtain⟨t,rfl⟩:=ry;obtain⟨z,its,n,r,hl,e⟩:=I.sM hH;have hlen:its.toArray.size*k.toNat<=sizeLine:=by rw[cL,<-hl];exact hz
 ac_rfl
 have Ue:¬its.toArray.size*k.toNat>(2^63-1) / 8:=by
  have:(sizeLine:Nat)<=(2^63-1) / 8:=by decide
  omega
 have HG:¬(!Builtin.List.listFitsIndex k)=true:=by
  rw[fitsIndex_both h1 h2];exact cK
 have PF:¬Builtin.List.listTooLong (its.toArray.size*k.toNat)=true:=by
  rw[FD hlen];exact cK
 have UC:List.foldl (λx1 x2=>x1++x2) #[] (List.replicate (if its.toArray.isEmpty=true then 0 else k.toNat) its.toArray)=(List.replicate k.toNat its).flatten.toArray:=by
  have f0:∀m:Nat,List.foldl (λx1 x2=>x1++x2) #[] (List.replicate m its.toArray)=(List.replicate m its).flatten.toArray:=λm=>by
   have:=foldl_rep its m []
   rw[qX] at this;exact this
  rw[f0];cases its with
  |nil=>simp
  |cons a r'=>rw[if_neg (by simp)]
 refine wpAny_binaryOp_repeat_ref (T:="list") (U:="int") (by decide) ⟨_,e,rfl⟩ (λs'=>typeIs_int s' k t) noFill_list_mul F.fills_int_mul F.slot_int_rmul repeat_list F.slot_int_index.lookup
  (call_meets F.slot_int_rmul (typeIs_int s k t) F.entry_int_rmul (F.args_int_rmul_2 _ _) (int___rmul___int_list k t l its.toArray n)
   ⟨e,rfl,⟨_,e,rfl⟩,call_meets F.slot_list_mul ⟨_,e,rfl⟩ F.entry_list_mul (F.args_list_mul_2 _ _) (AutoListH.list___mul___list_int_3 l its.toArray n k t HG Ue PF) ⟨e,?_⟩⟩)
 rw[UC];exact⟨.ref _,_,I.El (t':=s.toks) (r.rep k.toNat) (by rw[len_rep,Nat.mul_comm];exact hz),rfl,q _ I.fresh⟩
end
section
variable {prog:Program} {w:World} {A:Around} {E:Value->Shared->Prop} {s:Shared}
end
section
variable {X:Cx}
end
end L2
namespace QX
open PySem PySem.W PySem.Calls PyProof.Rows
theorem rH{P:Params}{h:Heap}:∀(ns:List Int)(vs:List Value),WellAll P h vs (ns.map WData.int)->IntsAre vs ns:=by
 intro ns
 induction ns with
 |nil=>
  intro vs w;rw[List.map_nil] at w;cases w;exact .nil
 |cons n ns ih=>
  intro vs w;rw[iJ] at w;cases w with
  |cons a b=>
   cases a;exact .cons _ _ (ih _ b)
theorem Df{l:OpenLaw}{n:Nat}(hn:l.most=some n){P:Params}{h:Heap}{args:List WData}{vals:List Value}
  (Ed:l.row.toRowW.claim.pre args=true) (PU:WellAll P h vals args):
  ∃a vs ns,vals= [Value.ref a]/\args= [WData.list (ns.map WData.int)]/\h.get? a=some {cls:= .type "list",data:= .seq vs.toArray}/\IntsAre vs ns/\ns.length<=n:=by
 have hsh:WShape.hasAll [] args [.list .int]=true:=(pre_splitW Ed).1;have hc:l.pre.holds [] {args:=args}=true:=(pre_splitW Ed).2;obtain⟨d,r,rfl,h1,h2⟩:=hasAllW_cons hsh;obtain rfl:=hasAllW_nil h2;obtain⟨xs,rfl,h3⟩:=hasW_list h1;obtain⟨ns,rfl⟩:=items_int h3
 have hlen:ns.length<=n:=by
  unfold OpenLaw.pre at hc
  have h4:(WTm.not (.lt (.lit (.int (n:Int))) (.len (.arg 0)))).holds [] {args:= [.list (ns.map .int)]}=true:=by
   have h4:=(holds_andW hc).1;rw[hn] at h4;exact h4
  have h5:=condW_of h4 (w_not (w_lt w_lit (w_len_list (w_arg rfl))));rw[aG] at h5;refine gL λq=>?_;have q':(n:Int)<((ns.length:Nat):Int):=by omega
  first
   | (rw[decide_eq_true q'] at h5;exact absurd h5 (by decide))
   | (simp at h5;omega)
 cases PU with
 |cons w1 w2=>
  cases w2;cases w1 with
  |list ho jh=>exact⟨_,_,ns,rfl,rfl,ho,rH ns _ jh,hlen⟩
theorem C4(l:OpenLaw)(args:List WData):l.row.toRowW.claim.post args (.bool true) args=true:=
 postW_of (r:=l.row.toRowW) (X:=(true==true))
  (show WShape.has [] (.bool true) .bool=true by first|rfl|decide|simp[WShape.has,WShape.arms,WShape.armsAll])
  (show(WTm.eq .res (.lit (.bool true))).value [] {args:=args,res:=some (.bool true),after:=args}=some (.bool (true==true)) from w_eq_bool (w_res rfl) w_lit) rfl
theorem yM{l:OpenLaw}{n:Nat}{q:Program}{loose:List Str}{XP:(Str->Option Value)->Heap->Prop}{YP:World->Heap->Prop}{d:DefRec}
  (hn:l.most=some n) (Cj:d.params.defaults= [])
  (call:∀(w:World)(s₀ s₁:Shared)(mg mb:Str->Option Value)(fa:Addr)(o:Obj)(pm cd doc:Value)(a:Addr)(vs:List Value)(ns:List Int),
   Ground q loose [] XP w s₀ mg mb s₁.heap->YP w s₁.heap->
   s₁.heap.get? fa=some o->o.data= .func (docDef d.name d.params d.body d.scope pm cd doc)->s₁.heap.CodeRec cd d.name->mg d.name=some (.ref fa)->
   s₁.heap.get? a=some {cls:= .type "list",data:= .seq vs.toArray}->IntsAre vs ns->ns.length<=n->s₁.gens= #[]->
   codeAny (model l.prog w) callerA (.call (.ref fa) ⟨[.ref a],[]⟩) (λr s'=>r= .ok (.ret (.bool true))/\OldK s₁.heap s'.heap/\s'.os=s₁.os/\AllBare s'.gens) s₁):
  WalkO q loose XP YP l.row.toRowW d [] (λf vs=>PySem.call f vs):=by
 intro w s₀ s₁ mg mb G Y fa o pm cd doc dV kV ho hd dG hD y6 hg args vals as Ed aad hrd PU hlo;obtain rfl:dV= .none:=Dflts.none hD Cj;obtain rfl:kV= .none:=Dflts.noKw hD;rfl';obtain⟨a,vs,ns,rfl,rfl,HJ,hints,hlen⟩:=Df hn Ed PU;ac_rfl;refine enter_call (codeAny_mono (call w s₀ s₁ mg mb fa o pm cd doc a vs ns G Y ho (fd_plain hd) dG y6 HJ hints hlen hg) λr s' hq=>?_);obtain⟨rfl,h2,h3,h4⟩:=hq;exact⟨.inl ⟨.bool true, .bool true,[],rfl,λ_=>rfl, .bool true,C4 l _,λ_=>⟨List.Pairwise.nil,λ_ hm=>(nomatch hm)⟩⟩,h2,h3,h4⟩
section
variable {prog:Program} {w:World} {A:Around} {E:Value->Shared->Prop} {s:Shared} {K:Frag}
end
end QX
namespace L2
open PySem PySem.Spec PyProof.Rows
theorem v7:∀{vs:List Value}{ns:List Int},IntsAre vs ns->Vals (ns.map V.int) vs
 |_,_, .nil=> .nil
 |_,_, .cons n t h=> .cons ⟨t,rfl⟩ (v7 h)
def Gq(H:Hp):Prop:=∀b,H b=none\/∃o xs,H b=some (.oX o (.lst xs))
theorem Fu{P:Program}{w:World}{K:PySem.W.Frag}{mg mb:Str->Option Value}{CX:rj}{k:Nat}{fa a:Addr}{fd:FuncData}{x:Str}{sp:Sp}{s₁:Shared}{vs:List Value}{ns:List Int}
  (KX:K.In s₁.heap) (AE:s₁.heap.Ns mainGlobals mg) (hb:s₁.heap.Ns builtinsNs mb) (hbb:∀x:Str,x≠"__name__"->mb x=bootBuiltins x) (UA:s₁.heap.NoLimit) (hg:s₁.gens= #[])
  (ha:s₁.heap.get? a=some {cls:= .type "list",data:= .seq vs.toArray}) (hi:IntsAre vs ns) (hl:ns.length<=sizeLine) (hr:cn k callerA)
  (F:∀base:Heap,K.In base->base.Ns mainGlobals mg->FnOk P w K mg base CX k fa fd [x] sp) (Po:∀(s:Shared)(u:Value),BindsTo s fd ⟨[u],[]⟩ [(x,u)])
  (AG:∀H:Hp,Gq H->bU K H a (ns.map V.int)->sp [.ref a] H (λv _=>v= .bl true) λ_ _ _=>False)
  (Pg:∀H e s',CX [] H s₁ (λ_ _ _=>False) e s'->False):
  codeAny (model P w) callerA (.call (.ref fa) ⟨[.ref a],[]⟩) (λr s'=>r= .ok (.ret (.bool true))/\OldK s₁.heap s'.heap/\s'.os=s₁.os/\AllBare s'.gens) s₁:=by
 have rv:=v7 hi;have VG:=hi.length
 have core:∀H:Hp,Gq H->bU K H a (ns.map V.int)->iK P w H s₁.heap->(∀b,H b≠none->b=a)->(H a≠none->K.lookup a=none)->
   codeAny (model P w) callerA (.call (.ref fa) ⟨[.ref a],[]⟩) (λr s'=>r= .ok (.ret (.bool true))/\OldK s₁.heap s'.heap/\s'.os=s₁.os/\AllBare s'.gens) s₁:=by
  intro H hO hS hok hA hK;have zZ:∀{b:Addr}{o:Obj},s₁.heap.get? b=some o->H b=none->(qk s₁.heap H).get? b=some o:=λe n=>Fj e n
  have Im:∀{b:Addr}{o:Obj}{es:Array DictEntry}{ep:Nat},s₁.heap.get? b=some o->o.data= .dict es ep->H b=none:=λ {b o es ep} e d=>by
   cases q:H b with
   |none=>rfl
   |some u=>
    have e':b=a:=hA b (by rw[q];simp)
    subst e';rw[ha] at e;cases e;have d':Data.seq vs.toArray _=Data.dict es ep:=d;cases d'
  have Lq:∀{b:Addr}{m:Str->Option Value},s₁.heap.Ns b m->(qk s₁.heap H).Ns b m:=λ {b m} ⟨o,es,ep,e,d,r⟩=>⟨o,es,ep,zZ e (Im e d),d,r⟩
  have T8:K.In (qk s₁.heap H):=λb o e=>zZ (KX b o e) (by
   cases q:H b with
   |none=>rfl
   |some u=>
    have e':b=a:=hA b (by rw[q];simp)
    subst e';rw[hK (by rw[q];simp)] at e;cases e)
  have hM:Mod K mg (qk s₁.heap H):=⟨T8,Lq AE,⟨mb,Lq hb,hbb⟩,let ⟨mc,h1,h2⟩:=UA;⟨mc,Lq h1,h2⟩⟩;have e0:Env0 P w K mg (qk s₁.heap H) callerA [] s₁ H:=⟨rfl,hM,λb o e=>Iz e,Nat.le_of_eq (Cm _ _),trivial,λb hb=>absurd (show b∈([]:List Addr) from hb) (by simp),hok, .of_eq hg⟩
  refine codeAny_mono ((F _ T8 (Lq AE)).run callerA [] s₁ H ⟨[.ref a],[]⟩ [.ref a] [.ref a] _ _ hr e0 (Po s₁ (.ref a)) (.cons rfl .nil) (AG H hO hS)) λr s' h=>?_;cases r with
  |error e=>exact(Pg H e s' h).elim
  |ok fl=>
   cases fl with
   |next=>exact False.elim h
   |brk=>exact False.elim h
   |cont=>exact False.elim h
   |ret u=>
    rfl';obtain⟨v,H',os,bare,un,UI,r',q⟩:=h;have q':v= .bl true:=q;subst q';ac_rfl;obtain rfl:u=Value.bool true:=r';refine⟨rfl,OldK.of_keep λb o e=>?_,os,bare⟩;cases q:H b with
    |none=>exact un.keep b o e q (by intro z;exact absurd (show b∈([]:List Addr) from z) (by simp)) (by simp)
    |some u=>
     rcases hO b with z| ⟨ob,xs,z⟩
     ·rw[q] at z;cases z
     ·have z2:=un.frzs b ob _ z
      obtain⟨e1,_⟩:=hok b _ z;obtain⟨e2,_⟩:=UI b _ z2;rw[e] at e1;cases e1;exact e2
 cases hk:K.lookup a with
 |some o=>
  have e:=KX a o hk;rw[ha] at e;cases Option.some.inj e;refine core (λ_=>none) (λ_=> .inl rfl) (.inr ⟨_,vs.toArray,_,hk,rfl,rfl,rfl,by rw[cL,VG];exact hl,by simpa using rv⟩) (λb u z=>by have z':(none:Option HO)=some u:=z;cases z') (λb z=>absurd rfl z) λz=>absurd rfl z
 |none=>
  refine core (λb=>if b=a then some (.oX {cls:= .type "list",data:= .seq vs.toArray} (.lst (ns.map V.int))) else none) (λb=>?_) (.inl (.inr ⟨{cls:= .type "list",data:= .seq vs.toArray},if_pos rfl⟩)) (λb u z=>?_) (λb z=>?_) λ_=>hk
  ·by_cases hb:b=a
   ·exact .inr ⟨_,_,if_pos hb⟩
   ·exact .inl (if_neg hb)
  ·by_cases hb:b=a
   ·have z':=(if_pos hb).symm.trans z
    obtain rfl:=Option.some.inj z';subst hb;exact⟨ha,by rw[aG];exact hl,vs,_,rv,ha⟩
   ·have z':=(if_neg hb).symm.trans z
    cases z'
  ·by_cases hb:b=a
   ·exact hb
   ·exact absurd (if_neg hb) z
theorem JY{l:PySem.W.OpenLaw}{n k:Nat}{q:Program}{loose:List Str}{XP:(Str->Option Value)->Heap->Prop}{YP:World->Heap->Prop}{d:DefRec}{K:Params->PySem.W.Frag}{CX:World->rj}{sp:World->Sp}{x:Str}
  (hn:l.most=some n) (KZ:n<=sizeLine) (Cj:d.params.defaults= []) (hr:cn k callerA)
  (hY:∀(w:World)(h:Heap),YP w h->(K w.params).In h)
  (F:∀(w:World)(mg:Str->Option Value)(fa:Addr)(h:Heap),(K w.params).In h->h.Ns mainGlobals mg->mg d.name=some (.ref fa)->
   ∃fd:FuncData,(∀(s:Shared)(u:Value),BindsTo s fd ⟨[u],[]⟩ [(x,u)])/\
    ∀base:Heap,(K w.params).In base->base.Ns mainGlobals mg->FnOk l.prog w (K w.params) mg base (CX w) k fa fd [x] (sp w))
  (AG:∀(w:World)(H:Hp)(a:Addr)(ns:List Int),ns.length<=n->Gq H->bU (K w.params) H a (ns.map V.int)->sp w [.ref a] H (λv _=>v= .bl true) λ_ _ _=>False)
  (Pg:∀(w:World)(H:Hp)(s:Shared)(e:Value)(s':Shared),CX w [] H s (λ_ _ _=>False) e s'->False):
  PySem.W.WalkO q loose XP YP l.row.toRowW d [] (λf vs=>PySem.call f vs):=by
 refine QX.yM hn Cj λw s₀ s₁ mg mb fa o pm cd doc a vs ns G Y ho hd dG y6 HJ hints hlen hg=>?_;have KX:=hY w _ Y;obtain⟨fd,hb,hF⟩:=F w mg fa _ KX G.T.g y6;exact Fu KX G.T.g G.T.b G.T.builtins G.T.nolimit hg HJ hints (jx hlen KZ) hr hF hb (λH hO hS=>AG w H a ns hlen hO hS) λH e s'=>Pg w H s₁ e s'
def inClass(s:Stmt)(j:Nat):Stmt:=match s with
 | .ClassDef _ _ _ body _ _ _ _ _ _ _=>body.getD j (.Pass ⟨0,0,0,0⟩)
 |_=> .Pass ⟨0,0,0,0⟩
def je(s:Stmt):Arguments:=match s with
 | .FunctionDef _ a _ _ _ _ _ _ _ _=>a
 |_=>{posonlyargs:= [],args:= [],vararg:=none,kwonlyargs:= [],kw_defaults:= [],kwarg:=none,defaults:= []}
def fm(s:Stmt):List Stmt:=match s with
 | .FunctionDef _ _ b _ _ _ _ _ _ _=>b
 |_=> []
def aq(s:Stmt):Scope:=match s with
 | .FunctionDef _ _ _ _ _ _ sc _ _ _=>sc
 |_=>{kind:= .function,names:= [],isGenerator:=false,isCoroutine:=false}
abbrev bQ:rj:=λ_ _ _ _ _ _=>False
abbrev E0:XK:=λ_ _ _=>False
theorem pC{X:Cx}:Passes bQ X E0:=λ_ _ _ _ _ _ _ h=>h.elim
structure ue (K:PySem.W.Frag) (x qual:Str) (st:Stmt) (f:Addr) (fd:FuncData):Prop where
 ex:∃(oc:Value)(od:Option Addr)(kV doc pm:Value)(an:Option Addr)(bh ct:Value)(A8:Array (Option Value)),
  fd=PySem.W.fnOf x qual (je st) (fm st) (aq st) .none kV doc pm an bh ct/\K.lookup f=some ⟨oc,od, .func fd,A8⟩/\PySem.W.codeIn K bh qual=true
 kp:PySem.W.keepIn K (.ref f)=true
section
variable {P:Program} {w:World} {K:PySem.W.Frag} {mg:Str->Option Value} {base:Heap}
theorem ue.ok{x qual:Str}{st:Stmt}{f:Addr}{fd:FuncData}{N ps:List Str}{k:Nat}{sp:Sp}(F:ue K x qual st f fd)(S:aC N ps (aq st))(len:∀vs H Q E,sp vs H Q E->vs.length=ps.length)
  (kY:∀(bh:Value)(A:Around)(outer:List Env)(s:Shared)(H:Hp)(vs:List V)(Q:VK)(E:XK),cn k (A.deeper (envOfC qual (aq st) s.heap.objs.size f bh))->sp vs H Q E->
   ∃t,me (pS bQ P w K mg base N qual (aq st) f bh A outer s H E).jz (fm st) t/\t {nx:=λ_ H'=>Q .bb H',rt:=Q} (start N vs) H):FnOk P w K mg base bQ (k+1) f fd ps sp:=by
 rfl';obtain⟨oc,od,kV,doc,pm,an,bh,ct,A8,rfl,lk,dG⟩:=F.ex;ac_rfl;refine Pa lk dG S len λA outer s H vs Q E hr AG=>?_;obtain⟨t,h,q⟩:=kY bh A outer s H vs Q E hr AG;exact⟨t,h.jz,q⟩
theorem ue.binds{x qual:Str}{st:Stmt}{f:Addr}{fd:FuncData}{ps:List Str}(F:ue K x qual st f fd)
  (h:∀(kV doc pm:Value)(an:Option Addr)(bh ct:Value)(us:List Value),us.length=ps.length->bindArgs (PySem.W.fnOf x qual (je st) (fm st) (aq st) .none kV doc pm an bh ct) ⟨us,[]⟩=pure (ps.zip us)):Binds K fd ps []:=by
 rfl';obtain⟨oc,od,kV,doc,pm,an,bh,ct,A8,rfl,lk,dG⟩:=F.ex;ac_rfl;exact .all (h kV doc pm an bh ct)
theorem qi{x qual:Str}{st:Stmt}{f:Addr}{oc:Value}{od an:Option Addr}{A8:Array (Option Value)}{kV doc pm bh ct:Value}(l:K.lookup f=some ⟨oc,od, .func (PySem.W.fnOf x qual (je st) (fm st) (aq st) .none kV doc pm an bh ct),A8⟩)
  (c:PySem.W.codeIn K bh qual=true) (k:PySem.W.keepIn K (.ref f)=true):ue K x qual st f (PySem.W.fnOf x qual (je st) (fm st) (aq st) .none kV doc pm an bh ct):=⟨⟨oc,od,kV,doc,pm,an,bh,ct,A8,rfl,l,c⟩,k⟩
end
theorem f7{n:Nat}(h:n<=1000):n<sizeLine:=Nat.lt_of_le_of_lt h (by decide)
section
variable {X:Cx}
theorem pv(i:Nat){x:Str}{pos:Pos}(hN:X.N[i]? =some x:=by rfl)(hv:kT X.env.scope x:=by first|exact Or.inl rfl|exact Or.inr (Or.inl rfl) |exact Or.inr (Or.inr rfl))(hd:(x==("__debug__":Str))=false:=by decide)
  (dG:(x==("__classdict__":Str))=false:=by decide):PE X (.Name x pos) (NV i):=zC hN hv hd dG
end
theorem cv{A B:Prop}(h:B):if false=true then A else B:=by
 rw[if_neg cK];exact h
theorem dr{A B:Prop}(h:A):if true=true then A else B:=by
 rw[if_pos rfl];exact h
def aK(H H':Hp):Prop:=∀b o,H b=some o->H' b=some o
theorem aK.refl(H:Hp):aK H H:=λ_ _ h=>h
theorem aK.trans{H H1 H2:Hp}(a:aK H H1)(b:aK H1 H2):aK H H2:=λc o h=>b c o (a c o h)
theorem aK.free{H H':Hp}(e:aK H H'){l:Addr}(h:H' l=Option.none):H l=Option.none:=by
 cases q:H l with
 |none=>rfl
 |some o=>
  rw[e l o q] at h;cases h
def iC(env:Env):List (Str×NameKind)->List (Str×Addr)->List (Str×Addr)
 | [],cs=>cs
 | (n,k)::r,cs=>if k==NameKind.free then iC env r ((n,(env.cells.lookup n).getD 0)::cs) else iC env r cs
theorem fD{scope:Scope}{env:Env}(h:∀x∈scope.names,x.2= .free->∃c,env.cells.lookup x.1=some c):closureFor scope env=pure (iC env scope.names []):=by
 simp only[closureFor]
 have go:∀(names:List (Str×NameKind))(cs:List (Str×Addr)),(∀x∈names,x.2= .free->∃c,env.cells.lookup x.1=some c)->
   (forIn names cs λx __s=>if (x.snd==NameKind.free)=true then(do let a <-cellOf env x.fst;pure (ForInStep.yield ((x.fst,a)::__s))) else pure (ForInStep.yield __s))=(pure (iC env names cs):Sem _):=by
  intro names
  induction names with
  |nil=>intro cs _;rfl
  |cons x r ih=>
   obtain⟨n,k⟩:=x;intro cs h;rw[List.forIn_cons,iC];have hr:=λcs=>ih cs λy hy=>h y (bP _ hy);cases hk:k==NameKind.free with
   |false=>
    simp only[hk,hV,if_false];exact hr cs
   |true=>
    have gQ:k= .free:=by simpa using hk
    obtain⟨c,hc⟩:=h (n,k) b6 gQ;simp only at hc;simp only[if_true,cellOf,hc];exact hr _
 rw[go _ _ h];rfl
theorem fC{env:Env}:∀(names:List (Str×NameKind))(cs:List (Str×Addr)),(∀x∈names,x.2= .free->∃c,env.cells.lookup x.1=some c)->(∀x c,cs.lookup x=some c->env.cells.lookup x=some c)->
  ∀x c,(iC env names cs).lookup x=some c->env.cells.lookup x=some c
 | [],cs,_,hc=>hc
 | (n,k)::r,cs,h,hc=>by
  rw[iC]
  split
  ·rename_i hk
   refine fC r _ (λy hy=>h y (bP _ hy)) λx c e=>?_;obtain⟨c',n9⟩:=h (n,k) b6 (by simpa using hk)
   rw[qV] at e
   split at e
   ·rename_i hx
    have qm:x=n:=by simpa using hx
    subst qm;simp only at n9;rw[n9] at e ⊢;exact e
   ·exact hc x c e
  ·exact fC r cs (λy hy=>h y (bP _ hy)) hc
theorem nP{env:Env}:∀(names:List (Str×NameKind))(cs:List (Str×Addr))(x:Str),((x,NameKind.free)∈names\/∃c,cs.lookup x=some c)->∃c,(iC env names cs).lookup x=some c
 | [],cs,x,h=>by
  rcases h with h|h
  ·cases h
  ·exact h
 | (n,k)::r,cs,x,h=>by
  rw[iC]
  split
  ·rename_i hk
   refine nP r _ x ?_
   by_cases e:x=n
   ·subst e;exact .inr ⟨(env.cells.lookup x).getD 0,by simp[qV]⟩
   ·have ne:(x==n)=false:=by simpa using e
    rcases h with h| ⟨c,h⟩
    ·rcases cm.mp h with z|z
     ·cases z;exact absurd rfl e
     ·exact .inl z
    ·exact .inr ⟨c,by rw[qV,ne];exact h⟩
  ·rename_i hk
   refine nP r cs x ?_
   rcases h with h|h
   ·rcases cm.mp h with z|z
    ·cases z;exact absurd rfl hk
    ·exact .inl z
   ·exact .inr h
def lY(src:List (Option Nat))(σ:St):St:=src.map λo=>o.bind λi=>(σ[i]?).bind id
def cQ(scope:Scope)(XN:List Str):List (Option Nat)->List Str->Prop
 | [],[]=>True
 |none::r,_::n=>cQ scope XN r n
 |some i::r,x::n=>XN[i]? =some x/\scope.names.lookup x=some .free/\cQ scope XN r n
 |_,_=>False
theorem cQ.len{scope:Scope}{XN:List Str}:∀{src:List (Option Nat)}{NC:List Str},cQ scope XN src NC->src.length=NC.length
 | [],[],_=>rfl
 |none::r,_::n,h=>by have:=cQ.len (src:=r) (NC:=n) h;simp[this]
 |some i::r,_::n,h=>by have:=cQ.len (src:=r) (NC:=n) h.2.2;simp[this]
 | [],_::_,h=>h.elim
 |none::_,[],h=>h.elim
 |some _::_,[],h=>h.elim
theorem cQ.at{scope:Scope}{XN:List Str}:∀{src:List (Option Nat)}{NC:List Str}{j i:Nat}{x:Str},cQ scope XN src NC->src[j]? =some (some i)->NC[j]? =some x->XN[i]? =some x/\scope.names.lookup x=some .free
 | [],[],_,_,_,_,h,_=>by simp at h
 |none::r,_::n,0,_,_,_,h,_=>by simp at h
 |none::r,_::n,j+1,i,x,h,h1,h2=>cQ.at (src:=r) (NC:=n) (j:=j) h (by simpa using h1) (by simpa using h2)
 |some k::r,y::n,0,i,x,h,h1,h2=>by
  have e1:k=i:=by simpa using h1
  have e2:y=x:=by simpa using h2
  subst e1 e2;exact⟨h.1,h.2.1⟩
 |some k::r,_::n,j+1,i,x,h,h1,h2=>cQ.at (src:=r) (NC:=n) (j:=j) h.2.2 (by simpa using h1) (by simpa using h2)
 | [],_::_,_,_,_,h,_,_=>h.elim
 |none::_,[],_,_,_,h,_,_=>h.elim
 |some _::_,[],_,_,_,h,_,_=>h.elim
structure cj (X:Cx) (scope:Scope):Prop where
 kind:scope.kind= .function
 names:∀x∈scope.names,x.2= .local->scope.names.lookup x.1=some .local
 nocell:∀x∈scope.names,x.2≠ .cell
 free:∀x∈scope.names,x.2= .free->X.env.kindOf x.1=some .cell\/X.env.kindOf x.1=some .free
theorem iu{env:Env}:∀(names:List (Str×NameKind))(x:Str),
  (names.map λ(n,k)=>if (k==NameKind.free&&env.scope.kind== .function&&env.kindOf n==some .cell) then(n,NameKind.cell) else(n,k)).lookup x=
   (names.lookup x).map λk=>if (k==NameKind.free&&env.scope.kind== .function&&env.kindOf x==some .cell) then NameKind.cell else k
 | [],_=>rfl
 | (n,k)::r,x=>by
  have ih:=iu (env:=env) r x;show List.lookup x ((if (k==NameKind.free&&env.scope.kind== .function&&env.kindOf n==some .cell)=true then(n,NameKind.cell) else(n,k))::_)=_;cases hx:x==n with
  |true=>
   have e:x=n:=by simpa using hx
   subst e
   by_cases hc:(k==NameKind.free&&env.scope.kind== .function&&env.kindOf x==some .cell)=true
   ·rw[if_pos hc,qV,qV]
    simp only[hx];show some NameKind.cell=some (if _ then _ else _);rw[if_pos hc]
   ·rw[if_neg hc,qV,qV]
    simp only[hx];show some k=some (if _ then _ else _);rw[if_neg hc]
  |false=>
   by_cases hc:(k==NameKind.free&&env.scope.kind== .function&&env.kindOf n==some .cell)=true
   ·rw[if_pos hc];simp only[qV,hx];exact ih
   ·rw[if_neg hc];simp only[qV,hx];exact ih
theorem mem_lookup{names:List (Str×NameKind)}{x:Str}{k:NameKind}(h:names.lookup x=some k):(x,k)∈names:=PySem.mem_of_lookup h
def cg(X:Cx)(scope:Scope)(NC:List Str)(ex:List Addr)(s:Shared)(H:Hp):Cx:=
 {X with N:=NC,s₀:=s,H₀:=H,env:=compEnvC scope (iC X.env scope.names []) s.heap.objs.size X.env,outer:=X.stack,stack:=X.stack,ex:=ex,fn:=λ_=>false,pn:= [],xe:=λ_ _=>False}
section
variable {X:Cx} {pins:List (Addr×Obj)} {σ:St} {H:Hp} {s:Shared} {scope:Scope} {NC:List Str} {ex:List Addr} {src:List (Option Nat)}
theorem cj.cells(c:cj X scope)(ok:X.Ok):∀x∈scope.names,x.2= .free->∃c,X.env.cells.lookup x.1=some c:=λx hx e=>ok.has x.1 (c.free x hx e)
theorem cj.P5(c:cj X scope){C:Addr}{x:Str}{k:NameKind}(h:(compEnvC scope (iC X.env scope.names []) C X.env).kindOf x=some k)(hk:k= .cell\/k= .free):scope.names.lookup x=some .free:=by
 have h':(relabel scope X.env).names.lookup x=some k:=h;unfold relabel at h';rw[iu] at h';cases e:scope.names.lookup x with
 |none=>rw[e] at h';cases h'
 |some k'=>
  have nc:=c.nocell _ (mem_lookup e);rw[e] at h';have h2:(if (k'==NameKind.free&&X.env.scope.kind== .function&&X.env.kindOf x==some .cell) then NameKind.cell else k')=k:=Option.some.inj h'
  by_cases hf:k'= .free
  ·rw[hf]
  ·have hb:(k'==NameKind.free)=false:=by simpa using hf
   rw[hb,v9,v9,if_neg cK] at h2
   rcases hk with z|z
   ·rw[h2] at nc;exact absurd z nc
   ·rw[h2] at hf;exact absurd z hf
theorem GQ(I:Inv X pins σ H s)(c:cj X scope)(hf:∀b∈ex,fj X pins H b)(cG:∀b∈ex,b<s.heap.objs.size):(cg X scope NC ex s H).Ok where
 mod:=I.ok.mod
 kind:=c.kind
 glob:=I.ok.glob
 blt:=I.ok.blt
 above:=bC _
 inj:=λx y d h1 h2=>I.ok.inj x y d (fC _ _ (c.cells I.ok) (λ_ _ z=>by cases z) x d h1) (fC _ _ (c.cells I.ok) (λ_ _ z=>by cases z) y d h2)
 has:=λx hx=>nP _ _ x (.inl (mem_lookup (by rcases hx with h|h<;>exact c.P5 h (by simp))))
 cab:=λ_ _ z=>by cases z
 hd:=I.ok.hd
 frames:=I.ok.frames
 stk:= .inl rfl
 exf:=λb hb=>⟨dD (cG b hb),λx d e=>(hf b hb).2.2.2.2.1 x d (fC _ _ (c.cells I.ok) (λ_ _ z=>by cases z) x d e)⟩
 bs:=I.bs
 bsz:=jx I.ok.bsz I.sz
 noex:=λb o e hb=>by
  rcases(hf b hb).2.2.2.1 with z|z
  ·exact I.ok.noex b o e z
  ·exact absurd (gK (Heap.lt_size e) (jx I.ok.bsz z)) (fz _)
 exfs:=λb hb z=>(cm.mp (I.zJ b z)).elim (hf b hb).2.1 (hf b hb).2.2.1
 funs:=I.stack
 frf:=I.Bx
theorem xh{h1:Heap}{tk:Nat}{ob:Obj}(I:Inv X pins σ H s)(c:cj X scope)(eJ:cQ scope X.N src NC)(hf:∀b∈ex,fj X pins H b)(cG:∀b∈ex,b<s.heap.objs.size)
  (AE:h1.Ns s.heap.objs.size (λ_=>none)) (za:Heap.SameBut s.heap.objs.size (s.heap.push ob) h1):
  Inv (cg X scope NC ex s H) [] (lY src σ) H {s with heap:=h1,toks:=tk}:=by
 have old:∀b o,s.heap.get? b=some o->h1.get? b=some o:=λb o e=>za.extBut b o (dD (Heap.lt_size e)) (Heap.get?_push_of_some _ e);have cl:∀x d,(iC X.env scope.names []).lookup x=some d->X.env.cells.lookup x=some d:=λx d=>fC _ _ (c.cells I.ok) (λ_ _ z=>by cases z) x d
 have cellK:∀d v,s.heap.IsCell d v->h1.IsCell d v:=λd v ⟨o,ho,hd⟩=>⟨o,old d o ho,hd⟩;refine⟨GQ I c hf cG,rfl,I.bare,Un.kept old,⟨_,AE,λj x v e1 e2 e3=>?_⟩,λx d e=>?_,I.hok.fresh (bC _),λx d e=>I.freeC x d (cl x d e),λp hp=>absurd (show p∈([]:List (Addr×Obj)) from hp) (by simp),I.hok.kept old,?_⟩
 ·have gI:(lY src σ)[j]? =some (some v):=e2
  unfold lY at gI;rw[cA] at gI;cases ej:src[j]? with
  |none=>rw[ej] at gI;cases gI
  |some o=>
   rw[ej] at gI;cases o with
   |none=>cases gI
   |some i=>
    have e4:(σ[i]?).bind id=some v:=Option.some.inj gI
    have e5:σ[i]? =some (some v):=by
     cases q:σ[i]? with
     |none=>rw[q] at e4;cases e4
     |some z=>rw[q] at e4;exact congrArg some e4
    rfl';obtain⟨hN,Pw⟩:=eJ.at ej e1;have hk:=c.free _ (mem_lookup Pw) rfl;obtain⟨m,hn,hl⟩:=I.loc;obtain⟨u,r,l⟩:=hl i x v hN e5 (hk.elim (λz=> .inr (.inl z)) (λz=> .inr (.inr z)));ac_rfl;refine⟨u,r, .inr ⟨?_,?_⟩⟩
    ·show(relabel scope X.env).names.lookup x=_\/(relabel scope X.env).names.lookup x=_
     unfold relabel;rw[iu,Pw]
     by_cases z:(NameKind.free==NameKind.free&&X.env.scope.kind== .function&&X.env.kindOf x==some .cell)=true
     ·left;simp only[Option.map_some,z,if_true]
     ·right;simp only[Option.map_some,z];rfl
    ·obtain⟨d,hd⟩:=nP (env:=X.env) scope.names [] x (.inl (mem_lookup Pw))
     refine⟨d,hd,?_⟩
     rcases l with ⟨l,_⟩ | ⟨_,d',e,z⟩
     ·exfalso;rcases hk with z|z<;>(rw[l] at z;cases z)
     ·rw[cl x d hd] at e;cases e;exact cellK d _ z
 ·obtain⟨v,z⟩:=I.cell x d (cl x d e)
  exact⟨v,cellK d v z⟩
 ·show(lY src σ).length=NC.length
  unfold lY;rw[aG];exact eJ.len
theorem comp_back{H':Hp}{az:St}{s':Shared}{h2:Heap}{zD:List (Addr×Obj)}(I:Inv X pins σ H s)(hf:∀b∈ex,fj X pins H b)(J:Inv (cg X scope NC ex s H) zD az H' s')
  (za:Heap.SameBut s.heap.objs.size s'.heap h2):Inv X pins σ H' {s' with heap:=h2}:=by
 have up:∀b o,b≠s.heap.objs.size->s'.heap.get? b=some o->h2.get? b=some o:=λb o hb e=>za.extBut b o hb e;have ne:∀b o,s.heap.get? b=some o->b≠s.heap.objs.size:=λb o e=>dD (Heap.lt_size e);have u:=J.base;refine I.N8 (ch:=ex) (show s'.os=s.os from J.os) ⟨λb o e n hb hx=>up b o (ne b o e) (u.keep b o e n hb hx),λb o e n hb hx=>?_,u.free,λb o e hx=>?_,u.tups,u.frzs,u.tbls⟩ ?_ J.bare λb hb=>?_
 ·obtain⟨sl,q⟩:=u.slot b o e n hb hx
  exact⟨sl,up b _ (ne b o e) q⟩
 ·obtain⟨o',q⟩:=u.there b o e hx
  exact⟨o',up b o' (ne b o e) q⟩
 ·intro b o e
  have nC:∀b o,H' b=some o->b≠s.heap.objs.size:=λb o e z=>by
   have:=J.free
   rw[z] at e;have e':H' s.heap.objs.size=none:=this;rw[e'] at e;cases e
  refine(J.hok b o e).qP (λd v hd q=>up d v ?_ q) (λ_ q=>q) λ_ _ q=>q
  rcases hd with z|z
  ·rw[z];exact nC b o e
  ·exact nC d _ z
 ·obtain⟨_,f1,_,f3,f4,f5⟩:=hf b hb
  exact⟨f3,f1,f4,f5⟩
end
def kS(X:Cx)(ifs:List Expr)(t:TT):Prop:=
 ∀(pins:List (Addr×Obj))(s:Shared)(σ:St)(H:Hp)(Q:Bool->Hp->Prop),Inv X pins σ H s->t σ H Q->
  wpAny (model X.prog X.w) X.A (forIn ifs true λc r=>if r=true then do let ok <-isTrue c X.env (eval c X.env);pure (ForInStep.yield ok) else pure (ForInStep.yield r)) (TP X pins σ Q) X.xe s
def Yr:TT:=λ_ H Q=>Q true H
theorem Je{X:Cx}:kS X [] Yr:=λ_ _ _ H _ I h=>wpAny_tests_nil ⟨H,I,h⟩
theorem Jf{X:Cx}{c:Expr}{t:TT}(h:PT X c t):kS X [c] t:=λpins s σ H Q I q=>wpAny_tests_one (h pins s σ H Q I q)
def YK(J:It)(g:TG)(tt:TT)(te:TE)(D:Addr)(Q:VK)(σ:St)(H:Hp):Prop:=
 ∃W:Nat->Nat->St->Hp->Prop,(∃m,W 0 m σ H)/\∀i m fI H2,W i m fI H2->
  (J.stop i H2/\Q (.ref D) H2)\/
  (J.go i H2/\∃N:St->Hp->Prop,(∀az H',N az H'->∃m',m'<m/\W (i+1) m' az H')/\∀x H3,J.yld i H2 x H3->g x fI H3 λfJ H4=>tt fJ H4 λb H5=>
   if b=true then te fJ H5 λv H6=>∃ys,H6 D=some (.lst ys)/\ys.length<sizeLine/\N fJ (upd H6 D (.lst (ys++ [v]))) else N fJ H5)
def Mn(wi:TI)(g:TG)(tt:TT)(te:TE)(src:List (Option Nat)):TE:=λσ H Q=>wi σ H λJ H1=>∀D,H1 D=none->YK J g tt te D Q (lY src σ) (upd H1 D (.lst []))
section
variable {X:Cx} {elt iter tg:Expr} {ifs:List Expr} {scope:Scope} {pos:Pos} {wi:TI} {g:TG} {tt:TT} {te:TE} {src:List (Option Nat)} {NC:List Str}
theorem sj{pins:List (Addr×Obj)}{σ:St}{s2:Shared}{H2:Hp}{it:Addr}{fp:List Addr}{tn:Nat->Heap->Prop}{J:It}{RR:Value->Addr->Result->Shared->Prop}{E:Value->Shared->Prop}{Q:VK}
  (hc:X.calm=true) (c:cj X scope) (eJ:cQ scope X.N src NC) (I2:Inv X pins σ H2 s2) (T:Turn X.prog X.w X.K tg J fp it tn) (nB:tn 0 s2.heap) (f2:∀b∈fp,fj X pins H2 b)
  (hg:∀s H,PG (cg X scope NC fp s H) tg g) (ht:∀s H,kS (cg X scope NC fp s H) ifs tt) (he:∀s H,PE (cg X scope NC fp s H) elt te)
  (hW:∀D,H2 D=none->∃W:Nat->Nat->St->Hp->Prop,(∃m,W 0 m (lY src σ) (upd H2 D (.lst [])))/\∀i m fI H2,W i m fI H2->
   (J.stop i H2/\Q (.ref D) H2)\/
   (J.go i H2/\∃N:St->Hp->Prop,(∀az H',N az H'->∃m',m'<m/\W (i+1) m' az H')/\∀x H3,J.yld i H2 x H3->g x fI H3 λfJ H4=>tt fJ H4 λb H5=>
    if b=true then te fJ H5 λv H6=>∃ys,H6 D=some (.lst ys)/\ys.length<sizeLine/\N fJ (upd H6 D (.lst (ys++ [v]))) else N fJ H5))
  (Pl:∀D s3 H3 az H' s',Inv X pins σ H3 s3->(∀b∈fp,fj X pins H3 b)->Inv (cg X scope NC fp s3 H3) [] az H' s'->Q (.ref D) H'->RR (.ref D) s3.heap.objs.size (.ok .next) s'):
  wpAny (model X.prog X.w) X.A (newList []) (λacc JN=>wpAny (model X.prog X.w) X.A (newFunctionEnv scope X.env.globals (iC X.env scope.names []) [] X.env.qual none .none (some X.env)) (λmD vX=>
   codeAny (model X.prog X.w) X.A (.compStart (.ListComp elt [⟨tg,iter,ifs,0⟩] scope pos) 0 (.ref it) acc {mD with scope:=relabel scope X.env}) (RR acc mD.locals) vX) E JN) E s2:=by
 rfl';obtain⟨W,⟨m0,w0⟩,turn⟩:=hW s2.heap.objs.size I2.fresh;have I3:Inv X pins σ (upd H2 s2.heap.objs.size (.lst [])) {s2 with heap:=s2.heap.push {cls:= .type "list",data:= .seq ([]:List Value).toArray}}:=I2.El (its:= []) (t':=s2.toks) .nil (cM _)
 ac_rfl
 have CJ:∀b∈fp,b<s2.heap.objs.size:=λb hb=>by
  obtain⟨o,e,_⟩:=T.obj _ _ nB b hb;exact Heap.lt_size e
 have f3:∀b∈fp,fj X pins (upd H2 s2.heap.objs.size (.lst [])) b:=λb hb=>⟨by rw[aw (dD (CJ b hb))];exact(f2 b hb).1,(f2 b hb).2⟩
 refine wpAny_newObj_type ?_
 suffices key:∀s3:Shared,Inv X pins σ (upd H2 s2.heap.objs.size (.lst [])) s3->(∀b o,s2.heap.get? b=some o->s3.heap.get? b=some o)->
   wpAny (model X.prog X.w) X.A (newFunctionEnv scope X.env.globals (iC X.env scope.names []) [] X.env.qual none .none (some X.env)) (λmD vX=>
    codeAny (model X.prog X.w) X.A (.compStart (.ListComp elt [⟨tg,iter,ifs,0⟩] scope pos) 0 (.ref it) (.ref s2.heap.objs.size) {mD with scope:=relabel scope X.env}) (RR (.ref s2.heap.objs.size) mD.locals) vX) E s3 from
  key _ I3 λb o e=>Heap.get?_push_of_some _ e
 intro s3 I3 QN;have Bw:tn 0 s3.heap:=T.keep _ _ _ nB λb _ o e=>QN b o e
 have CK:∀b∈fp,b<s3.heap.objs.size:=λb hb=>by
  obtain⟨o,e,_⟩:=T.obj _ _ Bw b hb;exact Heap.lt_size e
 generalize hH3:upd H2 s2.heap.objs.size (.lst [])=H3 at I3 f3 w0;refine wpAny_newFunctionEnv c.nocell (by intro y hy;simp at hy) (λh1 AE za=>?_) c.kind
 have I4:=xh (src:=src) (NC:=NC) (ex:=fp) (tk:=s3.toks+([]:List (Str×Value)).length) I3 c eJ f3 CK AE za;have JL:tn 0 h1:=T.keep _ _ _ Bw λb hb o e=>za.extBut b o (dD (CK b hb)) (Heap.get?_push_of_some _ e);generalize hX:cg X scope NC fp s3 H3=XC at I4
 have stat:∀{H':Hp},(∀b∈fp,H' b=none)->∀b∈fp,fj XC [] H' b:=λ {H'} hn b hb=>by
  subst hX;refine⟨hn b hb,dD (CK b hb),λz=>?_, .inl hb,λx d e=>?_,λp hp=>absurd (show p∈([]:List (Addr×Obj)) from hp) (by simp)⟩
  ·exact(I4.ok.exfs b hb) z
  ·exact(I4.ok.exf b hb).2 x d e
 have loop:codeAny (model X.prog X.w) X.A (.compLoop (.ListComp elt [⟨tg,iter,ifs,0⟩] scope pos) 0 (.ref it) (.ref s2.heap.objs.size) XC.env) (RR (.ref s2.heap.objs.size) s3.heap.objs.size)
   {s3 with heap:=h1,toks:=s3.toks+([]:List (Str×Value)).length}:=by
  refine codeAny_loop rfl (λn s'=>∃i az H',Inv XC [] az H' s'/\tn i s'.heap/\(∀b∈fp,H' b=none)/\W i n az H') (λn s' hI=>?_) m0 ⟨0,_,_,I4,JL,λb hb=>(f3 b hb).1,w0⟩;obtain⟨i,az,H',I5,tU,wH,w5⟩:=hI;show wpAny _ X.A ((compTurn (.ListComp elt [⟨tg,iter,ifs,0⟩] scope pos) 0 (.ref it) (.ref s2.heap.objs.size) XC.env).onRaise (λx=>do noteFrame x XC.env;theTreesLotGoes x)) _ _ s'
  refine wpAny_noted ?_;rw[compTurn_list]
  have jz:∀{α:Type}{t:Sem α}{Q:α->Shared->Prop}{E:Value->Shared->Prop}{s:Shared},wpAny (model XC.prog XC.w) XC.A t Q XC.xe s->wpAny (model X.prog X.w) X.A t Q E s:=λ {α t Q E s} h=>by
   subst hX;exact wpAny_mono h (λ_ _ q=>q) λ_ _ f=>f.elim
  have Fg:XC.calm=true:=by subst hX;exact hc
  have eP:XC.prog=X.prog:=by subst hX;rfl
  have ew:XC.w=X.w:=by subst hX;rfl
  have eK:XC.K=X.K:=by subst hX;rfl
  have eA:XC.A=X.A:=by subst hX;rfl
  have Px:PG XC tg g:=by subst hX;exact hg _ _
  have PQ:kS XC ifs tt:=hX▸ht _ _;have Pq:PE XC elt te:=hX▸he _ _;refine wpAny_bind (wpAny_standAt (wpAny_bind ?_))
  rcases turn i n az H' w5 with ⟨stop,qn⟩ | ⟨go,N,hN,step⟩
  ·have hd:=T.done XC eP ew eK Fg i [] s' az H' (notedBy (model X.prog X.w) X.A XC.env λe s'=>RR (.ref s2.heap.objs.size) s3.heap.objs.size (.error e) s') I5 (stat wH) tU stop
   rw[eA] at hd;refine thn hd λr s6 bc=>?_;obtain⟨hr,I6⟩:=bc;subst hr;refine wpAny_pure ?_;subst hX;exact Pl _ s3 H3 az H' s6 I3 f3 I6 qn
  ·have hd:=T.item XC eP ew eK Fg i [] s' az H' (notedBy (model X.prog X.w) X.A XC.env λe s'=>RR (.ref s2.heap.objs.size) s3.heap.objs.size (.error e) s') I5 (stat wH) tU go
   rw[eA] at hd;refine thn hd λr s6 bc=>?_;rfl';obtain⟨u,hr,h6⟩:=bc;ac_rfl;subst hr;refine wpAny_bind (thn h6 λ_ s7 bc=>?_);rfl';obtain⟨x,H7,I7,r7,y7,vS,Ho⟩:=bc;ac_rfl;have Gn:=I7.pinned (stat Ho) (T.obj _ _ vS)
   have again:∀{gr:St}{H8:Hp}{s8:Shared},Inv XC ([]++lA fp s7.heap) gr H8 s8->N gr H8->∃m,m<n/\∃i az H',Inv XC [] az H' s8/\tn i s8.heap/\(∀b∈fp,H' b=none)/\W i m az H':=λ {gr H8 s8} I8 n8=>by
    obtain⟨m',hm,w8⟩:=hN gr H8 n8;refine⟨m',hm,i+1,gr,H8,I8.i8,T.keep _ _ _ vS λb hb o e=>(I8.pin (b,o) (fN _ (fN _ (eL hb e)))).1,λb hb=>?_,w8⟩;obtain⟨o,e,d⟩:=T.obj _ _ vS b hb;exact(I8.pin (b,o) (fN _ (fN _ (eL hb e)))).2.1
   refine wpAny_bind (jz (thn (Px _ s7 az H7 x u _ Gn r7 (step x H7 y7)) λ_ s8 bc=>?_));rfl';obtain⟨gr,H8,I8,q8⟩:=bc;ac_rfl;refine wpAny_bind (jz (thn (PQ _ s8 gr H8 _ I8 q8) λb s9 bc=>?_));obtain⟨H9,I9,q9⟩:=bc;cases b with
   |false=>
    rw[if_neg cK] at q9;exact wpAny_pure ⟨hX▸rfl,again I9 q9⟩
   |true=>
    rw[if_pos rfl] at q9;refine wpAny_bind (wpAny_bind (jz (thn (Pq _ s9 gr H9 _ I9 q9) λy L7 bc=>?_)));rfl';obtain⟨v,Ka,NY,Qp,ys,hD,hz,Qn⟩:=bc;ac_rfl;refine wpAny_bind (jz (thn (lg _ L7 gr Ka (.ref s2.heap.objs.size) [v] _ [y] (λ_ H'=>N gr H') NY rfl (.cons Qp .nil) ⟨_,ys,v,rfl,rfl,hD,hz,Qn⟩) λ_ L8 bc=>?_));rfl';obtain⟨_,NX,Gk,_,Qo⟩:=bc;ac_rfl;exact wpAny_pure (wpAny_pure ⟨hX▸rfl,again Gk Qo⟩)
 subst hX;exact codeAny_compStart_list loop (T.self _ 0 _ _ _ JL loop)
theorem IQ(hc:X.calm=true)(c:cj X scope)(eJ:cQ scope X.N src NC)(hi:PI X tg iter wi)
  (hg:∀ex s H,PG (cg X scope NC ex s H) tg g) (ht:∀ex s H,kS (cg X scope NC ex s H) ifs tt) (he:∀ex s H,PE (cg X scope NC ex s H) elt te)
  (hs:∀x,foldedSetIterable iter X.env x=pure x:=by intro _;rfl):PE X (.ListComp elt [⟨tg,iter,ifs,0⟩] scope pos) (Mn wi g tt te src):=by
 intro pins s σ H Q I h;rw[eval_ListComp];refine wpAny_comprehension_free (use:=none) rfl hs (fD (c.cells I.ok)) c.kind c.names (thn (hi pins s σ H _ I h) λv s1 h1=>thn h1 λCu s2 h2=>?_);rfl';obtain⟨it,fp,tn,J,H2,rfl,I2,T,nB,f2,hW⟩:=h2;ac_rfl;refine sj (RR:=λacc C=>compPost (model X.prog X.w) X.A X.xe none (EP X pins σ Q) acc C) (Q:=Q) hc c eJ I2 T nB f2 (hg fp) (ht fp) (he fp) hW ?_;intro D s3 H3 az H' s' I3 f3 J' q;obtain⟨m,hn,_⟩:=J'.loc;exact⟨m,hn,λh' sb=>⟨.ref D,H',comp_back I3 f3 J' sb,rfl,q⟩⟩
def Mm(wi:TI)(g:TG)(tt:TT)(te:TE)(src:List (Option Nat))(i:Nat):TS:=λD σ H=>Mn wi g tt te src σ H λv H'=>D.nx (σ.set i (some v)) H'
theorem ye{i:Nat}{x:Str}{px jM:Pos}(hc:X.calm=true)(hN:X.N.Nodup)(gJ:X.N[i]? =some x)(hx:Loc X.env.scope x)(c:cj X scope)(eJ:cQ scope X.N src NC)(hi:PI X tg iter wi)
  (hg:∀ex s H,PG (cg X scope NC ex s H) tg g) (ht:∀ex s H,kS (cg X scope NC ex s H) ifs tt) (he:∀ex s H,PE (cg X scope NC ex s H) elt te)
  (jU:swapsWith (.ListComp elt [⟨tg,iter,ifs,0⟩] scope pos) (some (.Name x px)) jM.line X.env=pure true)
  (hf:X.fn x=true\/X.env.scope.names.lookup x=some .local:=by first|exact .inl rfl|exact .inr rfl|assumption)
  (hs:∀x,foldedSetIterable iter X.env x=pure x:=by intro _;rfl):PS X (.Assign [.Name x px] (.ListComp elt [⟨tg,iter,ifs,0⟩] scope pos) jM) (Mm wi g tt te src i):=by
 intro pins s σ H D I h;rw[exec_Assign_Name_used _ _ _ _ jU];refine wpAny_bind (wpAny_standAt (wpAny_bind ?_));show wpAny _ X.A (do let _ <-comprehension (.ListComp elt [⟨tg,iter,ifs,0⟩] scope pos) scope X.env _ (newList []) false (eval iter X.env) (some (assign (.Name x px) X.env))) _ _ s
 refine wpAny_bind (wpAny_mono (wpAny_comprehension_free (use:=some (assign (.Name x px) X.env)) (Q:=λ_ s'=>SP X pins D .next s') rfl hs (fD (c.cells I.ok)) c.kind c.names
  (thn (hi pins s σ H _ I h) λv s1 h1=>thn h1 λCu s2 h2=>?_)) (λ_ s' hq=>wpAny_pure (wpAny_pure hq)) λ_ _ e=>e)
 rfl';obtain⟨it,fp,tn,J,H2,rfl,I2,T,nB,f2,hW⟩:=h2;ac_rfl;refine sj (RR:=λacc C=>compPost (model X.prog X.w) X.A X.xe (some (assign (.Name x px) X.env)) (λ_ s'=>SP X pins D .next s') acc C) (Q:=λv H'=>D.nx (σ.set i (some v)) H') hc c eJ I2 T nB f2 (hg fp) (ht fp) (he fp) hW ?_;intro a s3 H3 az H' s' I3 f3 J' q;obtain⟨m,hn,_⟩:=J'.loc;have IX:Inv X pins σ H' s':=comp_back I3 f3 J' (.refl ..);have nL:s3.heap.objs.size≠X.env.locals:=Nat.ne_of_gt I3.lt
 have nc:∀y d,X.env.cells.lookup y=some d->d≠s3.heap.objs.size:=λy d e z=>by
  obtain⟨v,hv⟩:=I3.cell y d e
  have:=hv.lt
  rw[z] at this;exact absurd this (fz _)
 have np:∀p∈X.pn++pins,p.1≠s3.heap.objs.size:=λp hp z=>by
  have:=Heap.lt_size (I3.pin p hp).1
  rw[z] at this;exact absurd this (fz _)
 rfl';obtain⟨oC,es,ep,PM,Ci,rC⟩:=id hn;have Hy:H' s3.heap.objs.size=none:=J'.free;ac_rfl
 have IP:Inv X ((s3.heap.objs.size,oC)::pins) σ H' s':=IX.kE λp hp=>by
  rcases cm.mp hp with z|z
  ·rw[z]
   exact⟨PM,Hy,nL,I3.Ip (bC _),λv w=>by rw[Ci] at w;cases w⟩
  ·exact IX.pin p (fN _ z)
 refine wpAny_assign_Name (i7 (x:=x) IP hN gJ hx (v:= .ref a) rfl (λs5 I5=>?_) hf);have Pf:=(I5.pin (s3.heap.objs.size,oC) (fN _ b6)).1;refine⟨m,⟨oC,es,ep,Pf,Ci,rC⟩,λh6 sb=>?_⟩;have Gm:Inv X pins (σ.set i (some (.ref a))) H' s5:=I5.kE λp hp=>I5.pin p (fN _ (bP _ hp));exact⟨_,H',Gm.turned (t':=s5.toks) (it:=s3.heap.objs.size) (λb o hb e=>sb.extBut b o hb e) Hy nL (.inr I3.sz) nc np,q⟩
end
section
variable {X:Cx} {pins:List (Addr×Obj)} {σ:St} {H:Hp} {s:Shared} {h':Heap} {fp:List Addr}
theorem Inv.qQ{t':Nat}(I:Inv X pins σ H s)(hf:∀b∈fp,fj X pins H b)(k:∀b o,b∉fp->s.heap.get? b=some o->h'.get? b=some o):Inv X pins σ H {s with heap:=h',toks:=t'}:=by
 refine I.step (g':=s.gens) (d':=s.drawn) (ch:=fp) (λb hb=>?_) (λb o _ _ hc e _=>k b o hc e) (λb o _ _ hc e _=>⟨o.slots,k b o hc e⟩) (λ_ _ _ _ n=>n)
  (λb o hc e=>⟨o,k b o hc e⟩) (λ_ _ e=>e) (λ_ _ _ e=>e) (λb ps e=>⟨#[],by rw[e];simp⟩) (λm hm=>?_) (λb u e=>?_) I.bare
 ·obtain⟨_,f1,_,f3,f4,f5⟩:=hf b hb
  exact⟨f3,f1,f4,f5⟩
 ·obtain⟨o,es,ep,ho,r⟩:=hm
  exact⟨o,es,ep,k _ o (λz=>(hf _ z).2.1 rfl) ho,r⟩
 ·have nf:∀b u,H b=some u->b∉fp:=λb u e z=>by rw[(hf b z).1] at e;cases e
  refine(I.hok b u e).qP (λc v hc q=>k c v ?_ q) (λ_ q=>q) λ_ _ q=>q
  rcases hc with z|z
  ·rw[z];exact nf b u e
  ·exact nf c _ z
theorem Inv.BB{t':Nat}{t:Addr}{o:HO}(I:Inv X pins σ H s)(hf:∀b∈fp,fj X pins H b)(k:∀b o,b∉fp->s.heap.get? b=some o->h'.get? b=some o)(ht:s.heap.objs.size<=t)
  (new:cP X.prog X.w (upd H t o) h' t o):Inv X pins σ (upd H t o) {s with heap:=h',toks:=t'}:=by
 have nt:H t=none:=I.hok.fresh ht;have up:∀b u,H b=some u->upd H t o b=some u:=λb u e=>by rw[aw (aR e nt)];exact e
 refine I.step (g':=s.gens) (d':=s.drawn) (ch:=fp) (λb hb=>?_) (λb o _ _ hc e _=>k b o hc e) (λb o _ _ hc e _=>⟨o.slots,k b o hc e⟩) (λb o _ e n=>?_)
  (λb o hc e=>⟨o,k b o hc e⟩) (λb xs e=>up b _ e) (λb _ _ e=>up b _ e) (λb ps e=>⟨#[],by rw[up b _ e];simp⟩) (λm hm=>?_) (λb u e=>?_) I.bare
 ·obtain⟨_,f1,_,f3,f4,f5⟩:=hf b hb
  exact⟨f3,f1,f4,f5⟩
 ·rw[aw (dD (gK (Heap.lt_size e) ht))];exact n
 ·obtain⟨o,es,ep,ho,r⟩:=hm
  exact⟨o,es,ep,k _ o (λz=>(hf _ z).2.1 rfl) ho,r⟩
 ·by_cases hb:b=t
  ·subst hb
   rw[av] at e;cases Option.some.inj e;exact new
  ·rw[aw hb] at e
   have nf:∀b u,H b=some u->b∉fp:=λb u e z=>by rw[(hf b z).1] at e;cases e
   refine(I.hok b u e).qP (λc v hc q=>k c v ?_ q) (λb' q=>up b' _ q) λb' _ q=>up b' _ q
   rcases hc with z|z
   ·rw[z];exact nf b u e
   ·exact nf c _ z
end
def NZ(K:PySem.W.Frag)(a:Addr):It:=
 ⟨λi H=>∃xs x,bU K H a xs/\xs[i]? =some x,λi H y H'=>∃t x,y= .ref t/\H t=none/\H'=upd H t (.tup [.int i,x])/\∀xs,bU K H a xs->xs[i]? =some x,λi H=>∃xs,bU K H a xs/\xs.length<=i⟩
theorem sI{h:Heap}{t:Addr}{u v:Value}(e:h.get? t=some {cls:= .type "tuple",data:= .seq #[u,v]}):IsTup h t [u,v].toArray:=⟨_,e,rfl,_,rfl⟩
theorem Du{P:Program}{w:World}{K:PySem.W.Frag}{es:List Expr}{k1}{tp:Pos}(a e it:Addr)(ne:e≠it):
  Turn P w K (.Tuple es k1 tp) (NZ K a) [e,it] e (λi h=>(∃old,IsEnum h e it i old)/\h.IsListIter it a i) where
 mem:=by simp
 obj:=λi h st b hb=>by
  obtain⟨⟨old,he⟩,o,e2,c,d⟩:=st
  rcases cm.mp hb with z|z
  ·subst z
   exact⟨_,he,λv w=>by cases w⟩
  ·have z':b=it:=by simpa using z
   subst z';exact⟨o,e2,λv z=>by rw[d] at z;cases z⟩
 keep:=λi h h' st k=>by
  obtain⟨⟨old,he⟩,nB⟩:=st;exact⟨⟨old,k e (by simp) _ he⟩,nB.at λo q=>k it (by simp) o q⟩
 item:=by
  intro X hP hw hK hc i pins s σ H E I hf st hg;rfl';subst hP hw hK;obtain⟨xs,x,hq,hx⟩:=hg;obtain⟨its,rv,p,hz⟩:=I.list hq;obtain⟨u,hu,ru⟩:=rv.get hx;obtain⟨⟨old,he⟩,hit⟩:=st;ac_rfl;refine wpAny_pyNext_enum_item he hit p.isList (x:=u) (by simpa using hu) ne λh' Ck Ur PN UN kk=>?_
  have k2:∀b o,b∉ [e,it]->s.heap.get? b=some o->h'.get? b=some o:=λb o hb q=>kk b o (λz=>hb (by simp[z])) (λz=>hb (by simp[z])) q
  have I1:Inv X pins σ (upd H s.heap.objs.size (.tup [.int i,x])) {s with heap:=h',toks:=s.toks+1}:=
   I.BB hf k2 (bC _) ⟨by show 2<=sizeLine;decide,[.int i s.toks,u], .cons ⟨_,rfl⟩ (.cons ru .nil),sI PN⟩
  refine⟨_,rfl,wpAny_letOwnedTupleGo_enum Ck λh2 he2 sb=>?_⟩
  have lt:∀b∈ [e,it],b<s.heap.objs.size:=λb hb=>by
   rcases cm.mp hb with z|z
   ·rw[z];exact Heap.lt_size he
   ·obtain⟨o,e2,_⟩:=hit
    have z':b=it:=by simpa using z
    rw[z'];exact Heap.lt_size e2
  have HF:∀b∈ [e,it],fj X pins (upd H s.heap.objs.size (.tup [.int i,x])) b:=λb hb=>⟨by rw[aw (dD (lt b hb))];exact(hf b hb).1,(hf b hb).2⟩
  refine⟨.ref s.heap.objs.size,_,I1.qQ (t':=s.toks+1) HF (λb o hb q=>sb.extBut b o (λz=>hb (by simp[z])) q),rfl,⟨_,x,rfl,I.hok.fresh (bC _),rfl,λys hy=>by rw[I.rP hy hq];exact hx⟩,⟨⟨u,?_⟩,Ur.extBut sb.extBut (Ne.symm ne)⟩,λb hb=>(HF b hb).1⟩
  have z:((i+1:Nat):Int)=(i:Int)+1:=by omega
  rw[z];exact he2
 done:=by
  intro X hP hw hK hc i pins s σ H E I hf st hg;rfl';subst hP hw hK;obtain⟨xs,hq,hx⟩:=hg;obtain⟨its,rv,p,hz⟩:=I.list hq;have hl:=rv.length;obtain⟨⟨old,he⟩,hit⟩:=st;ac_rfl;exact wpAny_pyNext_enum_end (I.ok.hd hc) he hit p.isList (by simp;omega) λh' eb=>⟨rfl,I.qQ (t':=s.toks) hf λb o hb q=>eb b o (λz=>hb (by simp[z])) q⟩
 self:=λ_ _ _ _ _ st h=>by
  obtain⟨⟨old,he⟩,_⟩:=st;exact wpAny_pyIter_enum he h
section
variable {X:Cx}
def PY(K:PySem.W.Frag)(ta:TA):TI:=λσ H R=>ta σ H λvs H1=>∃a,vs= [.ref a]/\(∃xs,H1 a=some (.lst xs))/\R (NZ K a) H1
theorem IV{a:Expr}{ta:TA}{p pos:Pos}{es:List Expr}{k1}{tp:Pos}(hg:Gl X "enumerate")(hm:X.mg "enumerate"=none)(ha:PA X [a] ta)(hs:starEach [a] X.env= [(false,eval a X.env)]:=by rfl):
  PI X (.Tuple es k1 tp) (.Call (.Name "enumerate" p) [a] [] pos) (PY X.K ta):=by
 intro pins s σ H R I h;refine Call_ (gz I hg hm boot_enumerate (PyProof.Rows.callWith_type1 (thn (ha pos pins s σ H _ I h) λus s1 ⟨vs,H1,I1,r1,q1⟩=>?_) hs rfl));rfl';obtain⟨l,e,⟨xs,hl⟩,q⟩:=q1;subst e;obtain⟨u,rfl,ru⟩:=r1.one;subst ru;obtain⟨z,its,n,rv,hlen,e⟩:=I1.sM hl;ac_rfl;refine call_enumerate_1 e λh' he hit wM kk=>?_;refine wpAny_pyIter_enum he ?_;have y8:s1.heap.objs.size+1≠s1.heap.objs.size:=Nat.succ_ne_self _;refine⟨s1.heap.objs.size+1,[s1.heap.objs.size+1,s1.heap.objs.size],_,_,H1,rfl,I1.kept (t':=s1.toks) kk,Du l _ _ y8,⟨⟨_,he⟩,hit⟩,λb hb=>?_,q⟩
 have y2:s1.heap.objs.size<=b:=by
  rcases cm.mp hb with z|z
  ·rw[z];exact rb _
  ·have z':b=s1.heap.objs.size:=by simpa using z
   rw[z'];exact bC _
 exact I1.AA y2 (I1.hok.fresh y2)
end
def N3(a b:Addr):It:=
 ⟨λi H=>∃xs ys x y,H a=some (.lst xs)/\H b=some (.lst ys)/\xs[i]? =some x/\ys[i]? =some y,
  λi H v H'=>∃t x y,v= .ref t/\H t=none/\H'=upd H t (.tup [x,y])/\(∀xs,H a=some (.lst xs)->xs[i]? =some x)/\∀ys,H b=some (.lst ys)->ys[i]? =some y,
  λi H=>∃xs ys,H a=some (.lst xs)/\H b=some (.lst ys)/\(xs.length<=i\/ys.length<=i)⟩
structure ZN (z TI TO i1 i2:Addr):Prop where
 TIz:TI≠z
 TOz:TO≠z
 i1z:i1≠z
 i2z:i2≠z
 TITO:TI≠TO
 TIi1:TI≠i1
 TIi2:TI≠i2
 TOi1:TO≠i1
 TOi2:TO≠i2
 i12:i1≠i2
theorem Gi{P:Program}{w:World}{K:PySem.W.Frag}{es:List Expr}{k1}{tp:Pos}(l1 l2 z TI TO i1 i2:Addr)(N:ZN z TI TO i1 i2):
  Turn P w K (.Tuple es k1 tp) (N3 l1 l2) [z,TO,i1,i2,TI] z (λi h=>IsZip h z TI TO .none/\IsPair h TI (.ref i1) (.ref i2)/\(∃a b,IsPair h TO a b)/\h.IsListIter i1 l1 i/\h.IsListIter i2 l2 i) where
 mem:=by simp
 obj:=λi h st b hb=>by
  obtain⟨hz,u4,⟨a,c,wI⟩,⟨o1,e1,_,d1⟩,⟨o2,e2,_,d2⟩⟩:=st;simp only[cm,ia,or_false] at hb
  rcases hb with rfl|rfl|rfl|rfl|rfl
  ·exact⟨_,hz,λv w=>by cases w⟩
  ·exact⟨_,wI,λv w=>by cases w⟩
  ·exact⟨o1,e1,λv z=>by rw[d1] at z;cases z⟩
  ·exact⟨o2,e2,λv z=>by rw[d2] at z;cases z⟩
  ·exact⟨_,u4,λv w=>by cases w⟩
 keep:=λi h h' st k=>by
  obtain⟨hz,u4,⟨a,c,wI⟩,h1,h2⟩:=st;exact⟨k z (by simp) _ hz,k TI (by simp) _ u4,⟨a,c,k TO (by simp) _ wI⟩,h1.at λo q=>k i1 (by simp) o q,h2.at λo q=>k i2 (by simp) o q⟩
 item:=by
  intro X hP hw hK hc i pins s σ H E I hf st hg;rfl';subst hP hw hK;obtain⟨xs,ys,x,y,tG,tH,hx,hy⟩:=hg;obtain⟨ND,L5,p1,UU⟩:=I.list (bU.of tG);obtain⟨xM,L6,p2,K2⟩:=I.list (bU.of tH);obtain⟨u1,hu1,Qy⟩:=L5.get hx;obtain⟨u2,hu2,Qz⟩:=L6.get hy;obtain⟨hz,u4,⟨a,c,wI⟩,h1,h2⟩:=st;have tF:=h2;have hyy:=hy;have nf:∀l u,H l=some u->∀b∈ [z,TO,i1,i2,TI],l≠b:=λl u e b hb q=>by rw[q,(hf b hb).1] at e;cases e
  ac_rfl
  have D:ZipApart z TI TO i1 i2 l1 l2:=⟨N.TIz,N.TOz,N.i1z,N.i2z,N.TITO,N.TIi1,N.TIi2,N.TOi1,N.TOi2,N.i12,nf _ _ tG z (by simp),nf _ _ tG TO (by simp),nf _ _ tG i1 (by simp),nf _ _ tG i2 (by simp),
   nf _ _ tH z (by simp),nf _ _ tH TO (by simp),nf _ _ tH i1 (by simp),nf _ _ tH i2 (by simp)⟩
  refine wpAny_pyNext_zip_item D hz u4 wI h1 h2 p1.isList p2.isList (x:=u1) (y:=u2) (by simpa using hu1) (by simpa using hu2) λh' HQ Ub KO Pe PN UN kk=>?_
  have k2:∀b o,b∉ [z,TO,i1,i2,TI]->s.heap.get? b=some o->h'.get? b=some o:=λb o hb q=>kk b o (λz=>hb (by simp[z])) (λz=>hb (by simp[z])) (λz=>hb (by simp[z])) (λz=>hb (by simp[z])) q
  have I1:Inv X pins σ (upd H s.heap.objs.size (.tup [x,y])) {s with heap:=h',toks:=s.toks}:=
   I.BB hf k2 (bC _) ⟨by show 2<=sizeLine;decide,[u1,u2], .cons Qy (.cons Qz .nil),sI PN⟩
  refine⟨_,rfl,wpAny_letOwnedTupleGo_zip HQ λh2 K2 sb=>?_⟩
  have lt:∀b∈ [z,TO,i1,i2,TI],b<s.heap.objs.size:=λb hb=>by
   simp only[cm,ia,or_false] at hb
   rcases hb with rfl|rfl|rfl|rfl|rfl
   ·exact Heap.lt_size hz
   ·exact Heap.lt_size wI
   ·obtain⟨o,e,_⟩:=h1;exact Heap.lt_size e
   ·obtain⟨o,e,_⟩:=tF;exact Heap.lt_size e
   ·exact Heap.lt_size u4
  have HF:∀b∈ [z,TO,i1,i2,TI],fj X pins (upd H s.heap.objs.size (.tup [x,y])) b:=λb hb=>⟨by rw[aw (dD (lt b hb))];exact(hf b hb).1,(hf b hb).2⟩
  have T9:IsPair h' TI (.ref i1) (.ref i2):=kk TI _ N.TIz N.TITO N.TIi1 N.TIi2 u4
  refine⟨.ref s.heap.objs.size,_,I1.qQ (t':=s.toks) HF (λb o hb q=>sb.extBut b o (λz=>hb (by simp[z])) q),rfl,⟨_,x,y,rfl,I.hok.fresh (bC _),rfl,λys hy=>?_,λys hy=>?_⟩,
   ⟨K2,sb.extBut _ _ N.TIz T9,⟨_,_,sb.extBut _ _ N.TOz Ub⟩,KO.extBut sb.extBut N.i1z,Pe.extBut sb.extBut N.i2z⟩,λb hb=>(HF b hb).1⟩
  ·rw[tG] at hy;cases hy;exact hx
  ·rw[tH] at hy;cases hy;exact hyy
 done:=by
  intro X hP hw hK hc i pins s σ H E I hf st hg;rfl';subst hP hw hK;obtain⟨xs,ys,tG,tH,hx⟩:=hg;obtain⟨ND,L5,p1,UU⟩:=I.list (bU.of tG);obtain⟨xM,L6,p2,K2⟩:=I.list (bU.of tH);have Uz:=L5.length;have PD:=L6.length;obtain⟨hz,u4,⟨a,c,wI⟩,h1,h2⟩:=st;have nf:∀l u,H l=some u->∀b∈ [z,TO,i1,i2,TI],l≠b:=λl u e b hb q=>by rw[q,(hf b hb).1] at e;cases e
  ac_rfl
  have D:ZipApart z TI TO i1 i2 l1 l2:=⟨N.TIz,N.TOz,N.i1z,N.i2z,N.TITO,N.TIi1,N.TIi2,N.TOi1,N.TOi2,N.i12,nf _ _ tG z (by simp),nf _ _ tG TO (by simp),nf _ _ tG i1 (by simp),nf _ _ tG i2 (by simp),
   nf _ _ tH z (by simp),nf _ _ tH TO (by simp),nf _ _ tH i1 (by simp),nf _ _ tH i2 (by simp)⟩
  refine wpAny_pyNext_zip_end (I.ok.hd hc) D hz u4 wI h1 h2 p1.isList p2.isList ?_ λh' kk=>⟨rfl,I.qQ (t':=s.toks) hf λb o hb q=>kk b o (λz=>hb (by simp[z])) (λz=>hb (by simp[z])) (λz=>hb (by simp[z])) (λz=>hb (by simp[z])) q⟩
  rcases hx with hx|hx
  ·left;simp;omega
  ·right;simp;omega
 self:=λ_ _ _ _ _ st h=>wpAny_pyIter_zip st.1 h
section
variable {X:Cx}
def UZ(ta:TA):TI:=λσ H R=>ta σ H λvs H1=>∃a b xs ys,vs= [.ref a, .ref b]/\H1 a=some (.lst xs)/\H1 b=some (.lst ys)/\R (N3 a b) H1
theorem LS{a b:Expr}{ta:TA}{p pos:Pos}{es:List Expr}{k1}{tp:Pos}(hg:Gl X "zip")(hm:X.mg "zip"=none)(ha:PA X [a,b] ta)(hs:starEach [a,b] X.env= [(false,eval a X.env),(false,eval b X.env)]:=by rfl)(iN:starEach [b] X.env= [(false,eval b X.env)]:=by rfl):
  PI X (.Tuple es k1 tp) (.Call (.Name "zip" p) [a,b] [] pos) (UZ ta):=by
 intro pins s σ H R I h;refine Call_ (gz I hg hm (show bootBuiltins "zip"=some (.type "zip") by decide+kernel) (PyProof.Rows.callWith_type1 (thn (ha pos pins s σ H _ I h) λus s1 ⟨vs,H1,I1,r1,q1⟩=>?_) (by rw[hs,iN]) (by rw[iN];rfl)))
 rfl';obtain⟨l1,l2,xs,ys,e,Uz,PD,q⟩:=q1;subst e;obtain⟨u1,u2,rfl,Qy,Qz⟩:=r1.two;subst Qy;subst Qz;obtain⟨ND,L5,p1,UU⟩:=I1.list (bU.of Uz);obtain⟨xM,L6,p2,K2⟩:=I1.list (bU.of PD);ac_rfl;refine call_zip_2 p1.isList p2.isList λh' hz u4 wI h1 h2 wM kk=>?_;refine wpAny_pyIter_zip hz ?_;refine⟨_,_,_,_,H1,rfl,I1.kept (t':=s1.toks) kk,Gi l1 l2 (s1.heap.objs.size+4) (s1.heap.objs.size+2) (s1.heap.objs.size+3) s1.heap.objs.size (s1.heap.objs.size+1) ?_,⟨hz,u4,⟨_,_,wI⟩,h1,h2⟩,λb hb=>?_,q⟩
 ·generalize s1.heap.objs.size=n
  exact⟨show n+2≠n+4 by omega,show n+3≠n+4 by omega,show n≠n+4 by omega,show n+1≠n+4 by omega,show n+2≠n+3 by omega,show n+2≠n by omega,show n+2≠n+1 by omega,show n+3≠n by omega,show n+3≠n+1 by omega,show n≠n+1 by omega⟩
 ·have y2:s1.heap.objs.size<=b:=by
   generalize s1.heap.objs.size=n at hb;simp only[cm,ia,or_false] at hb
   rcases hb with z|z|z|z|z<;>(rw[z];show n<=_;omega)
  exact I1.AA y2 (I1.hok.fresh y2)
end
end L2
namespace Wb
abbrev W:=List (List Nat)
def row(w:W)(p:Nat):List Nat:=w.getD p []
inductive Reach (w:W):Nat->Nat->Prop
 |refl (p):Reach w p p
 |step {p q r}:Reach w p q->r∈row w q->Reach w p r
structure Good (w:W):Prop where
 rng:∀p q,q∈row w p->q<w.length
 irr:∀p,p∉row w p
 nod:∀p,(row w p).Nodup
 sym:∀p q,q∈row w p->p∈row w q
 con:∀p,p<w.length->Reach w 0 p
theorem aI{w:W}{p q:Nat}(h:q∈row w p):p<w.length:=by
 apply Classical.byContradiction;intro hn;unfold row at h;rw[aV,fi (by omega)] at h
 simp at h
theorem Bi{w:W}{p:Nat}(h:p<w.length):w[p]? =some (row w p):=by
 unfold row;rw[aV,bO h];rfl
theorem EB{w:W}{p:Nat}{r:List Nat}(h:w[p]? =some r):row w p=r:=by
 unfold row;rw[aV,h];rfl
theorem vM{w:W}{p:Nat}(h:w.length<=p):row w p= []:=by
 unfold row;rw[aV,fi h];rfl
theorem Reach.trans{w:W}{p q r:Nat}(h:Reach w p q)(h':Reach w q r):Reach w p r:=by
 induction h' with
 |refl=>exact h
 |step _ hr ih=>exact .step ih hr
theorem Reach.symm{w:W}(hs:∀p q,q∈row w p->p∈row w q){p q:Nat}(h:Reach w p q):Reach w q p:=by
 induction h with
 |refl=>exact .refl _
 |step _ hr ih=>exact(Reach.step (.refl _) (hs _ _ hr)).trans ih
theorem Reach.mono{w w':W}(hm:∀p q,q∈row w p->q∈row w' p){p q:Nat}(h:Reach w p q):Reach w' p q:=by
 induction h with
 |refl=>exact .refl _
 |step _ hr ih=>exact .step ih (hm _ _ hr)
def ins{α:Type}(xs:List α)(i:Nat)(x:α):List α:=xs.take i++x::xs.drop i
theorem rG{α:Type}(xs:List α)(i:Nat)(x:α):(ins xs i x).Perm (x::xs):=by
 unfold ins;have h:= @List.perm_middle _ x (xs.take i) (xs.drop i);rw[yE] at h;exact h
theorem Ih{α:Type}{xs:List α}{i:Nat}{x a:α}:a∈ins xs i x↔a=x\/a∈xs:=by
 rw[(rG xs i x).mem_iff,cm]
theorem CO{α:Type}{xs:List α}{i:Nat}{x:α}(h:xs.Nodup)(hx:x∉xs):(ins xs i x).Nodup:=by
 rw[(rG xs i x).nodup_iff,eE];exact⟨hx,h⟩
theorem AJ{α:Type}(xs:List α)(i:Nat)(x:α):(ins xs i x).length=xs.length+1:=by
 rw[(rG xs i x).length_eq];rfl
theorem good_ren{w w':W}{ord:Nat->Nat}(g:Good w)(hl:w'.length=w.length)(into:∀p,p<w.length->ord p<w.length)
  (inj:∀p q,p<w.length->q<w.length->ord p=ord q->p=q) (Gb:∀y,y<w.length->∃p,p<w.length/\ord p=y)
  (Ee:∀p,p<w.length->(row w' (ord p)).Perm ((row w p).map ord)):Good w':=by
 have mem:∀p q,p<w.length->(q∈row w' (ord p)↔∃a,a∈row w p/\ord a=q):=λp q hp=>by
  rw[(Ee p hp).mem_iff,b8]
 have reach:∀{p q},Reach w p q->Reach w' (ord p) (ord q):=λ {p q} h=>by
  induction h with
  |refl=>exact .refl _
  |step _ hr ih=>exact .step ih ((mem _ _ (aI hr)).mpr ⟨_,hr,rfl⟩)
 refine⟨λy q hy=>?_,λy hy=>?_,λy=>?_,λy q hy=>?_,λy hy=>?_⟩
 ·obtain⟨p,hp,rfl⟩:=Gb y (by have:=aI hy;omega)
  obtain⟨a,ha,rfl⟩:=(mem p q hp).mp hy;rw[hl];exact into a (g.rng _ _ ha)
 ·obtain⟨p,hp,rfl⟩:=Gb y (by have:=aI hy;omega)
  obtain⟨a,ha,e⟩:=(mem p _ hp).mp hy
  have:=inj a p (g.rng _ _ ha) hp e
  subst this;exact g.irr _ ha
 ·by_cases hy:y<w.length
  ·obtain⟨p,hp,rfl⟩:=Gb y hy
   rw[(Ee p hp).nodup_iff];unfold List.Nodup;rw[lZ];refine List.Pairwise.imp_of_mem ?_ (g.nod p);intro a b ha hb ne e;exact ne (inj a b (g.rng _ _ ha) (g.rng _ _ hb) e)
  ·rw[vM (by omega)];exact ic
 ·obtain⟨p,hp,rfl⟩:=Gb y (by have:=aI hy;omega)
  obtain⟨a,ha,rfl⟩:=(mem p q hp).mp hy;exact(mem a _ (g.rng _ _ ha)).mpr ⟨p,g.sym _ _ ha,rfl⟩
 ·rw[hl] at hy
  obtain⟨p,hp,rfl⟩:=Gb y hy;obtain⟨z,hz,e0⟩:=Gb 0 (by omega)
  have h1:=reach (((g.con z hz).symm g.sym).trans (g.con p hp));rw[e0] at h1;exact h1
def au(l:List Nat)(x:Nat):Nat:=l.getD ((l.idxOf x+1)%l.length) 0
def bD(w:W)(d:Nat×Nat):Nat×Nat:=(d.2,au (row w d.2) d.1)
def bu(w:W)(d:Nat×Nat):Prop:=d.2∈row w d.1
theorem lI{l:List Nat}{x:Nat}(h:x∈l):l[(l.idxOf x+1)%l.length]? =some (au l x):=by
 have hp:0<l.length:=yD h;unfold au;rw[aV,bO (tm _ hp)];rfl
theorem dJ{l:List Nat}{x:Nat}(h:x∈l):au l x∈l:=e9 (lI h)
theorem Ii{a b n:Nat}(ha:a<n)(hb:b<n)(e:(a+1)%n=(b+1)%n):a=b:=by
 by_cases h1:a+1=n
 ·by_cases h2:b+1=n
  ·omega
  ·rw[h1,Nat.mod_self,qW (by omega)] at e;omega
 ·by_cases h2:b+1=n
  ·rw[h2,Nat.mod_self,qW (by omega)] at e;omega
  ·rw[qW (by omega),qW (by omega)] at e;omega
theorem lJ{l:List Nat}{x y:Nat}(nd:l.Nodup)(hx:x∈l)(hy:y∈l)(e:au l x=au l y):x=y:=by
 have hp:0<l.length:=yD hx;have h1:=lI hx;have h2:=lI hy;rw[e] at h1;have lx:=wc.mpr hx;have ly:=wc.mpr hy;obtain⟨a1,b1⟩:=dE.mp h1;obtain⟨a2,b2⟩:=dE.mp h2;have q:=(List.getElem_inj nd).mp (b1.trans b2.symm);have q2:=Ii lx ly q;have e1:=zQ lx;have e2:=zQ ly;rw[<-e1,<-e2];simp only[q2]
theorem gi{w:W}{d:Nat×Nat}(g:Good w)(h:bu w d):bu w (bD w d):=dJ (g.sym _ _ h)
theorem Iq{w:W}{d e:Nat×Nat}(g:Good w)(h:bu w d)(h':bu w e)(q:bD w d=bD w e):d=e:=by
 have e2:d.2=e.2:=congrArg Prod.fst q;have e1:au (row w d.2) d.1=au (row w e.2) e.1:=congrArg Prod.snd q;rw[<-e2] at e1;have h1:d.1∈row w d.2:=g.sym _ _ h;have h2:e.1∈row w d.2:=by rw[e2];exact g.sym _ _ h'
 exact Prod.ext (lJ (g.nod _) h1 h2 e1) e2
def ba(w:W):List (Nat×Nat):=(List.range w.length).flatMap λp=>(row w p).map λq=>(p,q)
theorem b7{w:W}{d:Nat×Nat}:d∈ba w↔bu w d:=by
 unfold ba bu;rw[oN]
 constructor
 ·rintro⟨p,_,h⟩
  obtain⟨q,hq,rfl⟩:=b8.mp h;exact hq
 ·intro h
  exact⟨d.1,cT.mpr (aI h),b8.mpr ⟨d.2,h,rfl⟩⟩
theorem aQ{α:Type} [DecidableEq α]:∀{l m:List α},l.Nodup->(∀x∈l,x∈m)->l.length<=m.length
 | [],_,_,_=>cM _
 |a::r,m,nd,h=>by
  have oh:=eE.mp nd;have am:=h a b6;have ih:=aQ (l:=r) (m:=m.erase a) oh.2 λx hx=>(List.mem_erase_of_ne (λ(e:x=a)=>oh.1 (by rw[<-e];exact hx))).mpr (h x (bP _ hx))
  rw[List.length_erase_of_mem am] at ih
  have:=yD am
  simp only[cw];omega
theorem dZ{w:W}(g:Good w)(p:Nat):(row w p).length<=w.length:=by
 have:=aQ (m:=List.range w.length) (g.nod p) λx hx=>cT.mpr (g.rng _ _ hx)
 simpa using this
theorem xC{α β:Type}{f:α->List β}{k:Nat}:∀{l:List α},(∀x∈l,(f x).length<=k)->(l.flatMap f).length<=l.length*k
 | [],_=>by simp
 |a::r,h=>by
  have ih:=xC (f:=f) (k:=k) (l:=r) λx hx=>h x (bP _ hx)
  have:=h a b6
  rw[nO,cx,cw,Nat.succ_mul];omega
theorem uF{w:W}(g:Good w):(ba w).length<=w.length*w.length:=by
 have:=xC (f:=λp=>(row w p).map λq=>(p,q)) (k:=w.length) (l:=List.range w.length) λx _=>by rw[aG];exact dZ g x
 rw[iI] at this;exact this
def fP(w:W):Nat->Nat×Nat->Nat×Nat
 |0,d=>d
 |n+1,d=>bD w (fP w n d)
theorem iX{w:W}{d:Nat×Nat}(g:Good w)(h:bu w d):∀n,bu w (fP w n d)
 |0=>h
 |n+1=>gi g (iX g h n)
theorem vc{w:W}{d:Nat×Nat}(m:Nat):∀n,fP w (n+m) d=fP w n (fP w m d)
 |0=>by rw[r8];rfl
 |n+1=>by rw[Nat.succ_add];show bD w (fP w (n+m) d)=bD w (fP w n (fP w m d));rw[vc m n]
theorem AN{w:W}{d e:Nat×Nat}(g:Good w)(h:bu w d)(h':bu w e):∀n,fP w n d=fP w n e->d=e
 |0,q=>q
 |n+1,q=>AN g h h' n (Iq g (iX g h n) (iX g h' n) q)
def walk(w:W)(d:Nat×Nat)(k:Nat):List (Nat×Nat):=(List.range k).map λi=>fP w i d
theorem Dx(w:W)(d:Nat×Nat)(k:Nat):walk w d (k+1)=walk w d k++ [fP w k d]:=by
 unfold walk;rw[List.range_succ,dO];rfl
theorem yy(w:W)(d:Nat×Nat)(k:Nat):(walk w d k).length=k:=by unfold walk;simp
theorem v8{w:W}{d:Nat×Nat}(g:Good w)(h:bu w d){k:Nat}:∀e∈walk w d k,bu w e:=λe he=>by
 obtain⟨i,_,rfl⟩:=b8.mp he;exact iX g h i
theorem sV{w:W}{d:Nat×Nat}(g:Good w)(h:bu w d){k:Nat}(hk:∀j,0<j->j<k->fP w j d≠d):(walk w d k).Nodup:=by
 unfold walk List.Nodup;rw[lZ];refine List.Pairwise.imp_of_mem ?_ List.pairwise_lt_range;intro i j hi hj lt e;have KW:=cT.mp hj;have e2:fP w i d=fP w i (fP w (j-i) d):=by rw[<-vc (j-i) i,show i+(j-i)=j by omega];exact e
 exact hk (j-i) (by omega) (by omega) (AN g h (iX g h _) i e2).symm
theorem JX{w:W}{d:Nat×Nat}(g:Good w)(h:bu w d){k:Nat}(hk:∀j,0<j->j<k->fP w j d≠d):k<=(ba w).length:=by
 have:=aQ (m:=ba w) (sV g h hk) λe he=>b7.mpr (v8 g h e he)
 rwa [yy] at this
theorem z9{w:W}(g:Good w){S:Nat->Prop}(h0:S 0)(hc:∀p q,S p->q∈row w p->S q):∀p,p<w.length->S p:=λp hp=>by
 have:∀{a b},Reach w a b->S a->S b:=λ {a b} h ha=>by
  induction h with
  |refl=>exact ha
  |step _ hr ih=>exact hc _ _ ih hr
 exact this (g.con p hp) h0
def lexLe(a b:Nat×Nat):Prop:=a.1<b.1\/(a.1=b.1/\a.2<=b.2)
theorem xS{a b:Nat×Nat}(h:lexLe a b)(h':lexLe b a):a=b:=by
 unfold lexLe at h h';exact Prod.ext (by omega) (by omega)
def iS(rows:Nat->List Nat)(n:Nat):List (Nat×Nat):=(List.range n).flatMap λp=>((rows p).filter λq=>decide (p<q)).map λq=>(p,q)
theorem mS{α β:Type}{R:β->β->Prop}{f:α->List β}:∀{l:List α},(∀x∈l,(f x).Pairwise R)->l.Pairwise (λa b=>∀x∈f a,∀y∈f b,R x y)->(l.flatMap f).Pairwise R
 | [],_,_=>List.Pairwise.nil
 |a::r,h,p=>by
  have p':=List.pairwise_cons.mp p;rw[nO,List.pairwise_append];refine⟨h a b6,mS (λx hx=>h x (bP _ hx)) p'.2,λx hx y hy=>?_⟩;obtain⟨b,hb,AH⟩:=oN.mp hy;exact p'.1 b hb x hx y AH
end Wb
namespace L2
open PySem PySem.Spec PyProof.Rows
section
variable {X:Cx}
theorem Vals.ins{x:V}{u:Value}(r:RelV x u){xs:List V}{us:List Value}(i:Nat)(h:Vals xs us):Vals (Wb.ins xs i x) (Wb.ins us i u):=(h.take i).append (.cons r (h.drop i))
def Jl:V->List V->Hp->VK->Prop:=λx vs H Q=>∃l xs i y,x= .ref l/\vs= [.int i,y]/\H l=some (.lst xs)/\0<=i/\i<=xs.length/\xs.length<sizeLine/\Q .bb (upd H l (.lst (Wb.ins xs i.toNat y)))
theorem CL:Kb X "list.insert" Jl:=by
 intro pins s σ H x vs v us Q I rx rv h;rfl';obtain⟨l,xs,i,y,rfl,rfl,hH,h0,h1,hz,q⟩:=h;subst rx;obtain⟨u1,u2,rfl,⟨t,rfl⟩,ru⟩:=rv.two;obtain⟨z,its,n,r,hl,e⟩:=I.sM hH;have cG:=jH;ac_rfl
 have HG:¬(!Builtin.List.listFitsIndex i)=true:=by
  rw[fitsIndex_both (by omega) (by omega)]
  exact cK
 refine call_meets F.slot_list_insert ⟨_,e,rfl⟩ F.entry_list_insert (F.args_list_insert_3 _ _ _) (AutoSeq1.list_insert_list_int_val_1 l its.toArray n i t u2 HG (by rw[cL];omega)) ⟨e,?_⟩
 refine⟨.bb,_,I.Ib (its':=Wb.ins its i.toNat u2) hH e ?_ (r.ins ru i.toNat) ?_,rfl,q⟩
 ·have hi:¬i<0:=by omega
  have hm:min i.toNat its.length=i.toNat:=by omega
  simp only[hi,if_false,cL,hm];apply Array.toList_inj.mp;unfold Wb.ins;simp;exact EK (by rw[kN];omega)
 ·rw[Wb.AJ];omega
def L1(K:PySem.W.Frag):V->List V->Hp->VK->Prop:=λx vs H Q=>∃(l:Addr)(xs:List V)(y:V)(j:Nat)(z:V),x= .ref l/\vs= [y]/\H l=some (.lst xs)/\gx y=true/\xs.all gx=true/\xs[j]? =some z/\uQ z y=true/\
 (∀(m:Nat) z,m<j->xs[m]? =some z->uQ z y=false)/\Q (.int j) H
theorem FA:Kb X "list.index" (L1 X.K):=by
 intro pins s σ H x vs v us Q I rx rv h;rfl';obtain⟨l,xs,y,j,z,rfl,rfl,hH,fy,fs,hz,ez,PL,q⟩:=h;subst rx;obtain⟨u,rfl,ru⟩:=rv.one;obtain⟨wM,its,n,r,hl,e⟩:=I.sM hH;obtain⟨w,hw,vO⟩:=r.get hz;ac_rfl
 have hj:j<its.toArray.size:=by
  obtain⟨h1,_⟩:=dE.mp hw;simpa using h1
 have flat:∀(m:Nat) z,xs[m]? =some z->gx z=true:=λm z h=>(kO.mp fs) z (e9 h)
 have hwj:its.toArray[j]=w:=by
  obtain⟨h1,h2⟩:=dE.mp hw;simpa using h2
 have cG:=jH
 have KW:j<xs.length:=by
  obtain⟨h1,_⟩:=dE.mp hz;exact h1
 refine call_meets F.slot_list_index ⟨_,e,rfl⟩ F.entry_list_index (F.args_list_index_2 _ _) (SeqAt.list_indexAt l its.toArray n none #[] u (n6 y) j hj (by omega) ?_ ?_) ⟨e,λw hw=>iY ru fy r fs w (by simpa using hw),?_⟩
 ·rw[hwj,t8 vO (flat j z hz)];exact ez
 ·intro m hm PH
  have og:m<its.length:=by simpa using hm
  obtain⟨zm,PX⟩:∃zm,xs[m]? =some zm:=⟨_,bO (by omega)⟩
  obtain⟨wm,hwm,rwm⟩:=r.get PX
  have ewm:its.toArray[m]=wm:=by
   obtain⟨h1,h2⟩:=dE.mp hwm;simpa using h2
  rw[ewm,t8 rwm (flat m zm PX)];exact PL m zm PH PX
 ·exact⟨.int j,H,I.tok _,⟨_,rfl⟩,q⟩
end
mutual
inductive Dp (K:PySem.W.Frag) (H:Hp):V->PyData->Prop
 |bb:Dp K H .bb .none
 |bl (b:Bool):Dp K H (.bl b) (.bool b)
 |int (i:Int):Dp K H (.int i) (.int i)
 |str (x:Str) (h:PyData.strOk x=true):Dp K H (.str x) (.str x)
 |lst {a:Addr} {xs:List V} {ds:List PyData}:bU K H a xs->ie K H xs ds->Dp K H (.ref a) (.list ds)
 |tup {a:Addr} {xs:List V} {ds:List PyData}:gq K H a xs->ie K H xs ds->Dp K H (.ref a) (.tuple ds)
inductive ie (K:PySem.W.Frag) (H:Hp):List V->List PyData->Prop
 |nil:ie K H [] []
 |cons {v:V} {vs:List V} {d:PyData} {ds:List PyData}:Dp K H v d->ie K H vs ds->ie K H (v::vs) (d::ds)
end
section
variable {X:Cx} {pins:List (Addr×Obj)} {σ:St} {H:Hp} {s:Shared}
mutual
theorem Dp.reads(I:Inv X pins σ H s):∀{v:V}{d:PyData}{u:Value},Dp X.K H v d->RelV v u->(∃as,Reads s.heap u d as)/\d.canLay0=true
 |_,_,_, .bb,r=>by cases r;exact⟨⟨_, .none⟩,rfl⟩
 |_,_,_, .bl b,r=>by cases r;exact⟨⟨_, .bool b⟩,rfl⟩
 |_,_,_, .int i,r=>by obtain⟨t,rfl⟩:=r;exact⟨⟨_, .int i t⟩,rfl⟩
 |_,_,_, .str x h,r=>by obtain⟨t,rfl⟩:=r;exact⟨⟨_, .str x t⟩,by simpa [PyData.canLay0] using h⟩
 |_,_,_, .lst h a,r=>by
  cases r;obtain⟨its,rv,pl,hz⟩:=I.list h;obtain⟨⟨as,ra⟩,c⟩:=ie.reads I a rv;obtain⟨o,ho,hc,n,hd⟩:=pl.isList;exact⟨⟨_, .list ho hc hd (by simpa using ra)⟩,by simpa [PyData.canLay0] using c⟩
 |_,_,_, .tup h a,r=>by
  cases r;obtain⟨its,rv,pl,hz⟩:=I.tuple h;obtain⟨⟨as,ra⟩,c⟩:=ie.reads I a rv;obtain⟨o,ho,hc,n,hd⟩:=pl;exact⟨⟨_, .tuple ho hc hd (by simpa using ra)⟩,by simpa [PyData.canLay0] using c⟩
theorem ie.reads(I:Inv X pins σ H s):∀{vs:List V}{ds:List PyData}{us:List Value},ie X.K H vs ds->Vals vs us->(∃as,ReadsAll s.heap us ds as)/\PyData.canLayAll0 ds=true
 |_,_,_, .nil, .nil=>⟨⟨_, .nil⟩,by simp[PyData.canLayAll0]⟩
 |_,_,_, .cons a as, .cons r rs=>by
  obtain⟨⟨x,h1⟩,c1⟩:=Dp.reads I a r;obtain⟨⟨y,h2⟩,c2⟩:=ie.reads I as rs;exact⟨⟨_, .cons h1 h2⟩,by simp[PyData.canLayAll0,c1,c2]⟩
end
end
section
variable {X:Cx}
def Xq(K:PySem.W.Frag):R2:=λx y H Q=>∃d e,Dp K H x d/\Dp K H y e/\d.depth<=64/\Q (.bl (PyData.eqv d e)) H
def Xs(K:PySem.W.Frag):R2:=λx y H Q=>∃d e,Dp K H x d/\Dp K H y e/\d.depth<=64/\Q (.bl (!PyData.eqv d e)) H
theorem Lx(hu:X.A.units+64<cLine):OpR X (compareOp .Eq) (Xq X.K):=by
 intro pins s σ H x y v u Q I rx ry h;rfl';obtain⟨d,e,hd,he,hz,q⟩:=h;obtain⟨⟨as,r1⟩,c1⟩:=hd.reads I rx;obtain⟨⟨bs,r2⟩,c2⟩:=he.reads I ry;ac_rfl;exact SeqAt.compareEq_reads r1 r2 c1 c2 (by have:=Nat.min_le_left d.depth e.depth;omega) ⟨.bl _,H,I,rfl,q⟩
theorem LB(hu:X.A.units+64<cLine):OpR X (compareOp .NotEq) (Xs X.K):=by
 intro pins s σ H x y v u Q I rx ry h;rfl';obtain⟨d,e,hd,he,hz,q⟩:=h;obtain⟨⟨as,r1⟩,c1⟩:=hd.reads I rx;obtain⟨⟨bs,r2⟩,c2⟩:=he.reads I ry;ac_rfl;exact SeqAt.compareNe_reads r1 r2 c1 c2 (by have:=Nat.min_le_left d.depth e.depth;omega) ⟨.bl _,H,I,rfl,q⟩
end
def nD(n:Nat):PyData:= .int n
def qF(r:List Nat):PyData:= .list (r.map nD)
theorem sA{α:Type}{f:α->PyData}(hf:∀a b,PyData.eqv (f a) (f b)=true↔a=b):∀xs ys:List α,PyData.eqvAll (xs.map f) (ys.map f)=true↔xs=ys
 | [],[]=>by simp[PyData.eqvAll]
 | [],_::_=>by simp[PyData.eqvAll]
 |_::_,[]=>by simp[PyData.eqvAll]
 |a::xs,b::ys=>by
  have ih:=sA hf xs ys;simp[PyData.eqvAll,hf,ih]
theorem KH(a b:Nat):PyData.eqv (nD a) (nD b)=true↔a=b:=by
 simp[nD,PyData.eqv];omega
theorem xr(a b:List Nat):PyData.eqv (qF a) (qF b)=true↔a=b:=by
 unfold qF;rw[PyData.eqv];exact sA KH a b
theorem oj{α:Type}{f:α->PyData}{k:Nat}(hf:∀a,(f a).depth<=k):∀xs:List α,PyData.depthAll (xs.map f)<=k
 | []=>by simp[PyData.depthAll]
 |a::xs=>by
  have:=hf a
  have ih:=oj hf xs;simp[PyData.depthAll];omega
theorem Al(a:List Nat):(qF a).depth<=2:=by
 unfold qF;rw[PyData.depth]
 have:=oj (f:=nD) (k:=1) (λn=>by simp[nD,PyData.depth]) a
 omega
end L2
namespace L2
open PySem PySem.Spec PyProof.Rows
theorem Vals.of_get:∀{xs:List V}{us:List Value},xs.length=us.length->(∀(k:Nat) x u,xs[k]? =some x->us[k]? =some u->RelV x u)->Vals xs us
 | [],[],_,_=> .nil
 | [],_::_,h,_=>by simp at h
 |_::_,[],h,_=>by simp at h
 |x::xs,u::us,h,r=> .cons (r 0 x u rfl rfl) (Vals.of_get (by simpa using h) λk y w h1 h2=>r (k+1) y w (by simpa using h1) (by simpa using h2))
section
variable {X:Cx}
theorem yN:eM X (.builtin "isinstance") (λxs H Q=>∃(x:V)(n:String)(t:Value)(b:Bool),xs= [x, .ty n]/\jA X.K H x t/\PySem.W.kitOne X.K t (.type n)=some b/\Q (.bl b) H):=by
 intro pins s σ H xs us Q I rv h;rfl';obtain⟨x,n,t,b,rfl,ty,e,q⟩:=h;obtain⟨u1,u2,rfl,r1,r2⟩:=rv.two;subst r2;ac_rfl;exact Ct I r1 ty e λtk=>⟨.bl b,H,I.tok _,rfl,q⟩
end
theorem uC(elt t0 i0 t1 i1:Expr)(f0 f1:List Expr)(scope:Scope)(pos:Pos)(it acc:Value)(env:Env):
  compTurn (.ListComp elt [⟨t0,i0,f0,0⟩,⟨t1,i1,f1,0⟩] scope pos) 0 it acc env=(do
   standAt i0.pos
   match <-pyNext it with
   |none=>pure (.done .next)
   |some v=>
    letOwnedTupleGo t0 it v
    assign t0 env v
    let ok <-forIn f0 true λc r=>if r=true then do let ok <-isTrue c env (eval c env);pure (ForInStep.yield ok) else pure (ForInStep.yield r)
    if ok=true then
     let x <-eval i1 env
     standAt i1.pos
     let x <-foldedSetIterable i1 env x
     let HR <-holding [x] (pyIter x)
     let _ <-runOwn (.compStart (.ListComp elt [⟨t0,i0,f0,0⟩,⟨t1,i1,f1,0⟩] scope pos) 1 HR acc env) env
     again (.compLoop (.ListComp elt [⟨t0,i0,f0,0⟩,⟨t1,i1,f1,0⟩] scope pos) 0 it acc env)
    else again (.compLoop (.ListComp elt [⟨t0,i0,f0,0⟩,⟨t1,i1,f1,0⟩] scope pos) 0 it acc env)):=by rfl
theorem uD(elt t0 i0 t1 i1:Expr)(f0 f1:List Expr)(scope:Scope)(pos:Pos)(it acc:Value)(env:Env):
  compTurn (.ListComp elt [⟨t0,i0,f0,0⟩,⟨t1,i1,f1,0⟩] scope pos) 1 it acc env=(do
   standAt i1.pos
   match <-pyNext it with
   |none=>pure (.done .next)
   |some v=>
    letOwnedTupleGo t1 it v
    assign t1 env v
    let ok <-forIn f1 true λc r=>if r=true then do let ok <-isTrue c env (eval c env);pure (ForInStep.yield ok) else pure (ForInStep.yield r)
    if ok=true then
     (do let _ <-call (.builtin "list.append") [acc,<-eval elt env])
     again (.compLoop (.ListComp elt [⟨t0,i0,f0,0⟩,⟨t1,i1,f1,0⟩] scope pos) 1 it acc env)
    else again (.compLoop (.ListComp elt [⟨t0,i0,f0,0⟩,⟨t1,i1,f1,0⟩] scope pos) 1 it acc env)):=by rfl
section
variable {X XC:Cx} {elt i0 t0 i1 t1:Expr} {f0 f1:List Expr} {scope:Scope} {pos:Pos} {wi eC:TI} {g g1:TG} {tt dz:TT} {te:TE} {src:List (Option Nat)} {NC:List Str}
theorem tD{it acc:Value}{env:Env}{R:Result->Shared->Prop}{s:Shared}{A:Around}
  (h0:codeAny (model X.prog X.w) A (.compLoop (.ListComp elt [⟨t0,i0,f0,0⟩,⟨t1,i1,f1,0⟩] scope pos) 1 it acc env) R s)
  (hp:∀(Q:Value->Shared->Prop)(E:Value->Shared->Prop),Q it s->wpAny (model X.prog X.w) A (pyIter it) Q E s):
  codeAny (model X.prog X.w) A (.compStart (.ListComp elt [⟨t0,i0,f0,0⟩,⟨t1,i1,f1,0⟩] scope pos) 1 it acc env) R s:=by
 refine codeAny_of_tree ?_;refine wpAny_notedAt ?_;unfold compStart;refine wpAny_bind (wpAny_askSetting (wpAny_ite ?_))
 split
 ·first
   |exact wpAny_bind (wpAny_pure (wpAny_pure ⟨rfl,h0⟩))
   |exact wpAny_pure ⟨rfl,h0⟩
 ·refine wpAny_bind (wpAny_rule ?_)
  exact wpAny_bind (wpAny_standAt (wpAny_bind (hp _ _ (wpAny_pure ⟨rfl,h0⟩))))
theorem Aa{pins:List (Addr×Obj)}{s:Shared}{σ:St}{H:Hp}{it D:Addr}{fp:List Addr}{tn:Nat->Heap->Prop}{J:It}{R:Result->Shared->Prop}{N:St->Hp->Prop}
  (K1:XC.xe=λ_ _=>False) (hc:XC.calm=true) (I:Inv XC pins σ H s) (T:Turn XC.prog XC.w XC.K t1 J fp it tn) (st:tn 0 s.heap) (f2:∀b∈fp,fj XC pins H b)
  (hg:PG XC t1 g1) (ht:kS XC f1 dz) (he:PE XC elt te)
  (hW:∃W:Nat->Nat->St->Hp->Prop,(∃m,W 0 m σ H)/\∀i m fI H2,W i m fI H2->(J.stop i H2/\N fI H2)\/
   (J.go i H2/\∃N1:St->Hp->Prop,(∀az H',N1 az H'->∃m',m'<m/\W (i+1) m' az H')/\∀x H3,J.yld i H2 x H3->g1 x fI H3 λfJ H4=>dz fJ H4 λb H5=>
    if b=true then te fJ H5 λv H6=>∃ys,H6 D=some (.lst ys)/\ys.length<sizeLine/\N1 fJ (upd H6 D (.lst (ys++ [v]))) else N1 fJ H5))
  (hR:∀az H' s',Inv XC pins az H' s'->N az H'->R (.ok .next) s'):
  codeAny (model XC.prog XC.w) XC.A (.compStart (.ListComp elt [⟨t0,i0,f0,0⟩,⟨t1,i1,f1,0⟩] scope pos) 1 (.ref it) (.ref D) XC.env) R s:=by
 obtain⟨W,⟨m0,w0⟩,turn⟩:=hW
 have jz:∀{α:Type}{t:Sem α}{Q:α->Shared->Prop}{E:Value->Shared->Prop}{s:Shared},wpAny (model XC.prog XC.w) XC.A t Q XC.xe s->wpAny (model XC.prog XC.w) XC.A t Q E s:=λ {α t Q E s} h=>
  wpAny_mono h (λ_ _ q=>q) λ_ _ f=>by rw[K1] at f;exact f.elim
 have stat:∀{H':Hp},(∀b∈fp,H' b=none)->∀b∈fp,fj XC pins H' b:=λhn b hb=>⟨hn b hb,(f2 b hb).2⟩
 have loop:codeAny (model XC.prog XC.w) XC.A (.compLoop (.ListComp elt [⟨t0,i0,f0,0⟩,⟨t1,i1,f1,0⟩] scope pos) 1 (.ref it) (.ref D) XC.env) R s:=by
  refine codeAny_loop rfl (λn s'=>∃i az H',Inv XC pins az H' s'/\tn i s'.heap/\(∀b∈fp,H' b=none)/\W i n az H') (λn s' hI=>?_) m0 ⟨0,σ,H,I,st,λb hb=>(f2 b hb).1,w0⟩;rfl';obtain⟨i,az,H',I5,tU,wH,w5⟩:=hI;ac_rfl;show wpAny _ XC.A ((compTurn (.ListComp elt [⟨t0,i0,f0,0⟩,⟨t1,i1,f1,0⟩] scope pos) 1 (.ref it) (.ref D) XC.env).onRaise (λx=>do noteFrame x XC.env;theTreesLotGoes x)) _ _ s'
  refine wpAny_noted ?_;rw[uD];refine wpAny_bind (wpAny_standAt (wpAny_bind ?_))
  rcases turn i n az H' w5 with ⟨stop,qn⟩ | ⟨go,N1,hN,step⟩
  ·refine thn (T.done XC rfl rfl rfl hc i pins s' az H' _ I5 (stat wH) tU stop) λr s6 bc=>?_
   obtain⟨hr,I6⟩:=bc;subst hr;exact wpAny_pure (hR az H' s6 I6 qn)
  ·refine thn (T.item XC rfl rfl rfl hc i pins s' az H' _ I5 (stat wH) tU go) λr s6 bc=>?_
   rfl';obtain⟨u,hr,h6⟩:=bc;ac_rfl;subst hr;refine wpAny_bind (thn h6 λ_ s7 bc=>?_);rfl';obtain⟨x,H7,I7,r7,y7,vS,Ho⟩:=bc;ac_rfl;have Gn:=I7.pinned (stat Ho) (T.obj _ _ vS)
   have nextT:∀{gr:St}{H8:Hp}{s8:Shared},Inv XC (pins++lA fp s7.heap) gr H8 s8->N1 gr H8->∃m,m<n/\∃i az H',Inv XC pins az H' s8/\tn i s8.heap/\(∀b∈fp,H' b=none)/\W i m az H':=λ {gr H8 s8} I8 n8=>by
    obtain⟨m',hm,w8⟩:=hN gr H8 n8;refine⟨m',hm,i+1,gr,H8,I8.i8,T.keep _ _ _ vS λb hb o e=>(I8.pin (b,o) (fN _ (fN _ (eL hb e)))).1,λb hb=>?_,w8⟩;obtain⟨o,e,d⟩:=T.obj _ _ vS b hb;exact(I8.pin (b,o) (fN _ (fN _ (eL hb e)))).2.1
   refine wpAny_bind (jz (thn (hg _ s7 az H7 x u _ Gn r7 (step x H7 y7)) λ_ s8 bc=>?_));rfl';obtain⟨gr,H8,I8,q8⟩:=bc;ac_rfl;refine wpAny_bind (jz (thn (ht _ s8 gr H8 _ I8 q8) λb s9 bc=>?_));obtain⟨H9,I9,q9⟩:=bc;cases b with
   |false=>
    rw[if_neg cK] at q9;exact wpAny_pure ⟨rfl,nextT I9 q9⟩
   |true=>
    rw[if_pos rfl] at q9;refine wpAny_bind (wpAny_bind (jz (thn (he _ s9 gr H9 _ I9 q9) λy L7 bc=>?_)));rfl';obtain⟨v,Ka,NY,Qp,ys,hD,hz,Qn⟩:=bc;ac_rfl;refine wpAny_bind (jz (thn (lg _ L7 gr Ka (.ref D) [v] _ [y] (λ_ H'=>N1 gr H') NY rfl (.cons Qp .nil) ⟨_,ys,v,rfl,rfl,hD,hz,Qn⟩) λ_ L8 bc=>?_));rfl';obtain⟨_,NX,Gk,_,Qo⟩:=bc;ac_rfl;exact wpAny_pure (wpAny_pure ⟨rfl,nextT Gk Qo⟩)
 exact tD (X:=XC) loop λQ E q=>T.self _ 0 _ _ _ st q
def tIn(g1:TG)(dz:TT)(te:TE)(D:Addr)(J:It)(N:St->Hp->Prop):St->Hp->Prop:=λσ H=>
 ∃W:Nat->Nat->St->Hp->Prop,(∃m,W 0 m σ H)/\∀i m fI H2,W i m fI H2->(J.stop i H2/\N fI H2)\/
  (J.go i H2/\∃N1:St->Hp->Prop,(∀az H',N1 az H'->∃m',m'<m/\W (i+1) m' az H')/\∀x H3,J.yld i H2 x H3->g1 x fI H3 λfJ H4=>dz fJ H4 λb H5=>
   if b=true then te fJ H5 λv H6=>∃ys,H6 D=some (.lst ys)/\ys.length<sizeLine/\N1 fJ (upd H6 D (.lst (ys++ [v]))) else N1 fJ H5)
def NU(g:TG)(tt:TT)(eC:TI)(g1:TG)(dz:TT)(te:TE)(D:Addr)(J:It)(Q:VK)(σ:St)(H:Hp):Prop:=
 ∃W:Nat->Nat->St->Hp->Prop,(∃m,W 0 m σ H)/\∀i m fI H2,W i m fI H2->
  (J.stop i H2/\Q (.ref D) H2)\/
  (J.go i H2/\∃N:St->Hp->Prop,(∀az H',N az H'->∃m',m'<m/\W (i+1) m' az H')/\∀x H3,J.yld i H2 x H3->g x fI H3 λfJ H4=>tt fJ H4 λb H5=>
   if b=true then eC fJ H5 λJ1 H6=>tIn g1 dz te D J1 N fJ H6 else N fJ H5)
def JP(wi:TI)(g:TG)(tt:TT)(eC:TI)(g1:TG)(dz:TT)(te:TE)(src:List (Option Nat)):TE:=λσ H Q=>wi σ H λJ H1=>∀D,H1 D=none->NU g tt eC g1 dz te D J Q (lY src σ) (upd H1 D (.lst []))
theorem pQ{pins:List (Addr×Obj)}{σ:St}{s2:Shared}{H2:Hp}{it:Addr}{fp:List Addr}{tn:Nat->Heap->Prop}{J:It}{RR:Value->Addr->Result->Shared->Prop}{E:Value->Shared->Prop}{Q:VK}
  (hc:X.calm=true) (c:cj X scope) (eJ:cQ scope X.N src NC) (I2:Inv X pins σ H2 s2) (T:Turn X.prog X.w X.K t0 J fp it tn) (nB:tn 0 s2.heap) (f2:∀b∈fp,fj X pins H2 b)
  (hg:∀ex s H,PG (cg X scope NC ex s H) t0 g) (ht:∀ex s H,kS (cg X scope NC ex s H) f0 tt) (kZ:∀ex s H,PI (cg X scope NC ex s H) t1 i1 eC) (y4:∀ex s H,PG (cg X scope NC ex s H) t1 g1)
  (zb:∀ex s H,kS (cg X scope NC ex s H) f1 dz) (he:∀ex s H,PE (cg X scope NC ex s H) elt te) (mj:∀env x,foldedSetIterable i1 env x=pure x)
  (hW:∀D,H2 D=none->NU g tt eC g1 dz te D J Q (lY src σ) (upd H2 D (.lst [])))
  (Pl:∀D s3 H3 az H' s',Inv X pins σ H3 s3->(∀b∈fp,fj X pins H3 b)->Inv (cg X scope NC fp s3 H3) [] az H' s'->Q (.ref D) H'->RR (.ref D) s3.heap.objs.size (.ok .next) s'):
  wpAny (model X.prog X.w) X.A (newList []) (λacc JN=>wpAny (model X.prog X.w) X.A (newFunctionEnv scope X.env.globals (iC X.env scope.names []) [] X.env.qual none .none (some X.env)) (λmD vX=>
   codeAny (model X.prog X.w) X.A (.compStart (.ListComp elt [⟨t0,i0,f0,0⟩,⟨t1,i1,f1,0⟩] scope pos) 0 (.ref it) acc {mD with scope:=relabel scope X.env}) (RR acc mD.locals) vX) E JN) E s2:=by
 rfl';obtain⟨W,⟨m0,w0⟩,turn⟩:=hW s2.heap.objs.size I2.fresh;have I3:Inv X pins σ (upd H2 s2.heap.objs.size (.lst [])) {s2 with heap:=s2.heap.push {cls:= .type "list",data:= .seq ([]:List Value).toArray}}:=I2.El (its:= []) (t':=s2.toks) .nil (cM _)
 ac_rfl
 have CJ:∀b∈fp,b<s2.heap.objs.size:=λb hb=>by
  obtain⟨o,e,_⟩:=T.obj _ _ nB b hb;exact Heap.lt_size e
 have f3:∀b∈fp,fj X pins (upd H2 s2.heap.objs.size (.lst [])) b:=λb hb=>⟨by rw[aw (dD (CJ b hb))];exact(f2 b hb).1,(f2 b hb).2⟩
 refine wpAny_newObj_type ?_
 suffices key:∀s3:Shared,Inv X pins σ (upd H2 s2.heap.objs.size (.lst [])) s3->(∀b o,s2.heap.get? b=some o->s3.heap.get? b=some o)->
   wpAny (model X.prog X.w) X.A (newFunctionEnv scope X.env.globals (iC X.env scope.names []) [] X.env.qual none .none (some X.env)) (λmD vX=>
    codeAny (model X.prog X.w) X.A (.compStart (.ListComp elt [⟨t0,i0,f0,0⟩,⟨t1,i1,f1,0⟩] scope pos) 0 (.ref it) (.ref s2.heap.objs.size) {mD with scope:=relabel scope X.env}) (RR (.ref s2.heap.objs.size) mD.locals) vX) E s3 from
  key _ I3 λb o e=>Heap.get?_push_of_some _ e
 intro s3 I3 QN;have Bw:tn 0 s3.heap:=T.keep _ _ _ nB λb _ o e=>QN b o e
 have CK:∀b∈fp,b<s3.heap.objs.size:=λb hb=>by
  obtain⟨o,e,_⟩:=T.obj _ _ Bw b hb;exact Heap.lt_size e
 generalize hH3:upd H2 s2.heap.objs.size (.lst [])=H3 at I3 f3 w0;refine wpAny_newFunctionEnv c.nocell (by intro y hy;simp at hy) (λh1 AE za=>?_) c.kind
 have I4:=xh (src:=src) (NC:=NC) (ex:=fp) (tk:=s3.toks+([]:List (Str×Value)).length) I3 c eJ f3 CK AE za;have JL:tn 0 h1:=T.keep _ _ _ Bw λb hb o e=>za.extBut b o (dD (CK b hb)) (Heap.get?_push_of_some _ e);generalize hX:cg X scope NC fp s3 H3=XC at I4
 have stat:∀{H':Hp},(∀b∈fp,H' b=none)->∀b∈fp,fj XC [] H' b:=λ {H'} hn b hb=>by
  subst hX;refine⟨hn b hb,dD (CK b hb),λz=>?_, .inl hb,λx d e=>?_,λp hp=>absurd (show p∈([]:List (Addr×Obj)) from hp) (by simp)⟩
  ·exact(I4.ok.exfs b hb) z
  ·exact(I4.ok.exf b hb).2 x d e
 have Fg:XC.calm=true:=by subst hX;exact hc
 have eP:XC.prog=X.prog:=by subst hX;rfl
 have ew:XC.w=X.w:=by subst hX;rfl
 have eK:XC.K=X.K:=by subst hX;rfl
 have eA:XC.A=X.A:=by subst hX;rfl
 have K1:XC.xe=λ_ _=>False:=by subst hX;rfl
 have Px:PG XC t0 g:=by subst hX;exact hg _ _ _
 have PQ:kS XC f0 tt:=hX▸ht _ _ _;have hiC:PI XC t1 i1 eC:=hX▸kZ _ _ _;have Um:PG XC t1 g1:=hX▸y4 _ _ _;have UO:kS XC f1 dz:=hX▸zb _ _ _;have Pq:PE XC elt te:=hX▸he _ _ _
 have jz:∀{α:Type}{t:Sem α}{Q:α->Shared->Prop}{E:Value->Shared->Prop}{s:Shared},wpAny (model XC.prog XC.w) XC.A t Q XC.xe s->wpAny (model X.prog X.w) X.A t Q E s:=λ {α t Q E s} h=>by
  rw[<-eP,<-ew,<-eA];exact wpAny_mono h (λ_ _ q=>q) λ_ _ f=>by rw[K1] at f;exact f.elim
 have loop:codeAny (model X.prog X.w) X.A (.compLoop (.ListComp elt [⟨t0,i0,f0,0⟩,⟨t1,i1,f1,0⟩] scope pos) 0 (.ref it) (.ref s2.heap.objs.size) XC.env) (RR (.ref s2.heap.objs.size) s3.heap.objs.size)
   {s3 with heap:=h1,toks:=s3.toks+([]:List (Str×Value)).length}:=by
  refine codeAny_loop rfl (λn s'=>∃i az H',Inv XC [] az H' s'/\tn i s'.heap/\(∀b∈fp,H' b=none)/\W i n az H') (λn s' hI=>?_) m0 ⟨0,_,_,I4,JL,λb hb=>(f3 b hb).1,w0⟩;rfl';obtain⟨i,az,H',I5,tU,wH,w5⟩:=hI;ac_rfl;show wpAny _ X.A ((compTurn (.ListComp elt [⟨t0,i0,f0,0⟩,⟨t1,i1,f1,0⟩] scope pos) 0 (.ref it) (.ref s2.heap.objs.size) XC.env).onRaise (λx=>do noteFrame x XC.env;theTreesLotGoes x)) _ _ s'
  refine wpAny_noted ?_;rw[uC];refine wpAny_bind (wpAny_standAt (wpAny_bind ?_))
  rcases turn i n az H' w5 with ⟨stop,qn⟩ | ⟨go,N,hN,step⟩
  ·have hd:=T.done XC eP ew eK Fg i [] s' az H' (notedBy (model X.prog X.w) X.A XC.env λe s'=>RR (.ref s2.heap.objs.size) s3.heap.objs.size (.error e) s') I5 (stat wH) tU stop
   rw[eA] at hd;refine thn hd λr s6 bc=>?_;obtain⟨hr,I6⟩:=bc;subst hr;refine wpAny_pure ?_;subst hX;exact Pl _ s3 _ az H' s6 I3 f3 I6 qn
  ·have hd:=T.item XC eP ew eK Fg i [] s' az H' (notedBy (model X.prog X.w) X.A XC.env λe s'=>RR (.ref s2.heap.objs.size) s3.heap.objs.size (.error e) s') I5 (stat wH) tU go
   rw[eA] at hd;refine thn hd λr s6 bc=>?_;obtain⟨u,hr,h6⟩:=bc;subst hr;refine wpAny_bind (thn h6 λ_ s7 bc=>?_);rfl';obtain⟨x,H7,I7,r7,y7,vS,Ho⟩:=bc;ac_rfl;have Gn:=I7.pinned (stat Ho) (T.obj _ _ vS)
   have nextT:∀{gr:St}{H8:Hp}{s8:Shared},Inv XC ([]++lA fp s7.heap) gr H8 s8->N gr H8->∃m,m<n/\∃i az H',Inv XC [] az H' s8/\tn i s8.heap/\(∀b∈fp,H' b=none)/\W i m az H':=λ {gr H8 s8} I8 n8=>by
    obtain⟨m',hm,w8⟩:=hN gr H8 n8;refine⟨m',hm,i+1,gr,H8,I8.i8,T.keep _ _ _ vS λb hb o e=>(I8.pin (b,o) (fN _ (fN _ (eL hb e)))).1,λb hb=>?_,w8⟩;obtain⟨o,e,d⟩:=T.obj _ _ vS b hb;exact(I8.pin (b,o) (fN _ (fN _ (eL hb e)))).2.1
   refine wpAny_bind (jz (thn (Px _ s7 az H7 x u _ Gn r7 (step x H7 y7)) λ_ s8 bc=>?_));rfl';obtain⟨gr,H8,I8,q8⟩:=bc;ac_rfl;refine wpAny_bind (jz (thn (PQ _ s8 gr H8 _ I8 q8) λb s9 bc=>?_));obtain⟨H9,I9,q9⟩:=bc;cases b with
   |false=>
    rw[if_neg cK] at q9;exact wpAny_pure ⟨hX▸rfl,nextT I9 q9⟩
   |true=>
    rw[if_pos rfl] at q9;refine wpAny_bind (jz (thn (hiC _ s9 gr H9 _ I9 q9) λv1 L7 Pd=>?_));refine wpAny_bind (wpAny_standAt (wpAny_bind (wpAny_of_eq (mj _ v1) (wpAny_bind (wpAny_holding (jz (thn Pd λCu L8 h11=>?_)))))));rfl';obtain⟨HR,fp1,tn1,J1,NX,rfl,Gk,T1,Yc,f11,hin⟩:=h11;ac_rfl;refine wpAny_bind (wpAny_runOwn ?_);have tr:∀(cd:Code)(R:Result->Shared->Prop),codeAny (model XC.prog XC.w) XC.A cd R L8->codeAny (model X.prog X.w) X.A cd R L8:=λcd R h=>by rw[eP,ew,eA] at h;exact h
    exact tr _ _ (Aa K1 Fg Gk T1 Yc f11 Um UO Pq hin λaz H' s' YJ n12=>wpAny_pure ⟨hX▸rfl,nextT YJ n12⟩)
 subst hX;exact codeAny_compStart_list loop (T.self _ 0 _ _ _ JL loop)
theorem LL(hc:X.calm=true)(c:cj X scope)(eJ:cQ scope X.N src NC)(hi:PI X t0 i0 wi)
  (hg:∀ex s H,PG (cg X scope NC ex s H) t0 g) (ht:∀ex s H,kS (cg X scope NC ex s H) f0 tt) (kZ:∀ex s H,PI (cg X scope NC ex s H) t1 i1 eC) (y4:∀ex s H,PG (cg X scope NC ex s H) t1 g1)
  (zb:∀ex s H,kS (cg X scope NC ex s H) f1 dz) (he:∀ex s H,PE (cg X scope NC ex s H) elt te)
  (hs:∀x,foldedSetIterable i0 X.env x=pure x:=by intro _;rfl) (mj:∀env x,foldedSetIterable i1 env x=pure x:=by intro _ _;rfl):
  PE X (.ListComp elt [⟨t0,i0,f0,0⟩,⟨t1,i1,f1,0⟩] scope pos) (JP wi g tt eC g1 dz te src):=by
 intro pins s σ H Q I h;rw[eval_ListComp];refine wpAny_comprehension_free (use:=none) rfl hs (fD (c.cells I.ok)) c.kind c.names (thn (hi pins s σ H _ I h) λv s1 h1=>thn h1 λCu s2 h2=>?_);obtain⟨it,fp,tn,J,H2,rfl,I2,T,nB,f2,hW⟩:=h2
 exact pQ hc c eJ I2 T nB f2 hg ht kZ y4 zb he mj hW λD s3 H3 az H' s' I3 f3 I6 qn=>by
  obtain⟨m,hn,_⟩:=I6.loc;exact⟨m,hn,λh' sb=>⟨.ref D,H',comp_back I3 f3 I6 sb,rfl,qn⟩⟩
end
end L2
namespace KS
open PySem PySem.W PyProof.Rows
def ev{α:Type}(lt:Nat->Nat->Bool):KasT α->α
 | .ret a=>a
 | .ask i j k=>ev lt (k (lt i j))
theorem kj{α β:Type}(lt:Nat->Nat->Bool)(f:α->KasT β):∀t:KasT α,ev lt (t.bind f)=ev lt (f (ev lt t))
 | .ret _=>rfl
 | .ask i j k=>kj lt f (k (lt i j))
structure Ord (lt:Nat->Nat->Bool):Prop where
 irr:∀a,lt a a=false
 neg:∀a b c,lt a c=true->lt a b=true\/lt b c=true
 tr:∀a b c,lt a b=true->lt b c=true->lt a c=true
section
variable {lt:Nat->Nat->Bool} (O:Ord lt)
def Le(lt:Nat->Nat->Bool)(a b:Nat):Prop:=lt b a=false
include O
theorem Ord.as{a b:Nat}(h:lt a b=true):Le lt a b:=by
 unfold Le;cases q:lt b a with
 |false=>rfl
 |true=>have:=O.tr _ _ _ h q;rw[O.irr] at this;cases this
theorem Ord.fL{a b c:Nat}(h:Le lt a b)(h':Le lt b c):Le lt a c:=by
 unfold Le at*;cases q:lt c a with
 |false=>rfl
 |true=>rcases O.neg _ b _ q with z|z
        ·rw[h'] at z;cases z
        ·rw[h] at z;cases z
theorem Ord.rf(a:Nat):Le lt a a:=O.irr a
omit O
def P(p:Array Nat)(i:Nat):Nat:=p.getD i 0
theorem zT{p q:Array Nat}{i j:Nat}(h:p[i]? =q[j]?):P p i=P q j:=by unfold P;rw[sY,sY,h]
def rh(lt:Nat->Nat->Bool)(p:Array Nat)(k:Nat):Prop:=∀i j,i<=j->j<k->Le lt (P p i) (P p j)
def ud(lt:Nat->Nat->Bool)(p:Array Nat)(k:Nat):Prop:=∀i j,i<=j->j<k->Le lt (P p j) (P p i)
theorem rq{p:Array Nat}{i j:Nat}(hj:j<=p.size)(k:Nat):P (kas_rev p i j) k=if i<=k/\k<j then P p (i+j-1-k) else P p k:=by
 have e:=getElem?_mirror_all (xs:=p) (i:=i) hj k;unfold kas_rev
 split
 ·rename_i h;rw[if_pos h] at e;exact zT e
 ·rename_i h;rw[if_neg h] at e;exact zT e
theorem fG(p:Array Nat)(i j:Nat):(kas_rev p i j).Perm p:=mirror_perm _ _ _ _
theorem rY(p:Array Nat)(i j:Nat):(kas_rev p i j).size=p.size:=mirror_size _ _ _ _
include O
theorem GF{p:Array Nat}:rh lt p 1:=λi j h1 h2=>by
 have e:i=j:=by omega
 subst e;exact O.rf _
theorem yL{p:Array Nat}:∀(f n:Nat),1<=n->rh lt p n->rh lt p (ev lt (kas_asc p f n))/\n<=ev lt (kas_asc p f n)/\ev lt (kas_asc p f n)<=n+f/\
  (ev lt (kas_asc p f n)<n+f->lt (P p (ev lt (kas_asc p f n))) (P p (ev lt (kas_asc p f n)-1))=true)
 |0,n,h1,h=>⟨h,bC _,bC _,λz=>absurd z (fz _)⟩
 |f+1,n,h1,h=>by
  have e:ev lt (kas_asc p (f+1) n)=ev lt (if lt (P p n) (P p (n-1))=true then KasT.ret n else kas_asc p f (n+1)):=rfl;rw[e];cases c:lt (P p n) (P p (n-1)) with
  |true=>
   rw[if_pos rfl];exact⟨h,bC _,by show n<=_;omega,λ_=>c⟩
  |false=>
   rw[if_neg cK]
   have up:rh lt p (n+1):=λi j h2 h3=>by
    by_cases hj:j<n
    ·exact h i j h2 hj
    ·by_cases hi:i=j
     ·subst hi;exact O.rf _
     ·have:j=n:=by omega
      subst this;exact O.fL (h i (j-1) (by omega) (by omega)) c
   obtain⟨a,b,d,e⟩:=yL f (n+1) (by omega) up
   exact⟨a,by omega,by omega,λz=>e (by omega)⟩
theorem t5:∀(f:Nat)(p:Array Nat)(n q:Nat),1<=n->q+1<=n->n+f<=p.size->ud lt p n->(∀i,n-(q+1)<=i->i<n->Le lt (P p i) (P p (n-1)))->
  ∃p' n' q',ev lt (kas_desc f p n q)=(p',n',q')/\p'.Perm p/\n<=n'/\n'<=n+f/\q'+1<=n'/\ud lt p' n'/\(∀i,n'-(q'+1)<=i->i<n'->Le lt (P p' i) (P p' (n'-1)))
 |0,p,n,q,h1,hq,hz,h,he=>⟨p,n,q,rfl, .refl _,bC _,bC _,hq,h,he⟩
 |f+1,p,n,q,h1,hq,hz,h,he=>by
  have e:ev lt (kas_desc (f+1) p n q)=ev lt (if lt (P p n) (P p (n-1))=true then(if q>0 then kas_desc f (kas_rev p (n-(q+1)) n) (n+1) 0 else kas_desc f p (n+1) 0)
    else KasT.ask (P p (n-1)) (P p n) λd=>if d=true then KasT.ret (p,n,q) else kas_desc f p (n+1) (q+1)):=rfl
  rw[e];cases c:lt (P p n) (P p (n-1)) with
  |true=>
   rw[if_pos rfl]
   have up:ud lt p (n+1):=λi j h2 h3=>by
    by_cases hj:j<n
    ·exact h i j h2 hj
    ·by_cases hi:i=j
     ·subst hi;exact O.rf _
     ·have:j=n:=by omega
      subst this;exact O.fL (O.as c) (h i (j-1) (by omega) (by omega))
   by_cases UK:q>0
   ·rw[if_pos UK]
    have hk:∀i,i<n+1->Le lt (P (kas_rev p (n-(q+1)) n) i) (P p i)/\Le lt (P p i) (P (kas_rev p (n-(q+1)) n) i):=λi hi=>by
     rw[rq (by omega)]
     split
     ·rename_i hh
      have a1:=he i hh.1 hh.2;have a2:=he (n-(q+1)+n-1-i) (by omega) (by omega)
      have b1:=h i (n-1) (by omega) (by omega)
      have b2:=h (n-(q+1)+n-1-i) (n-1) (by omega) (by omega)
      exact⟨O.fL a2 b1,O.fL a1 b2⟩
     ·exact⟨O.rf _,O.rf _⟩
    have QM:ud lt (kas_rev p (n-(q+1)) n) (n+1):=λi j h2 h3=>O.fL (hk j h3).1 (O.fL (up i j h2 h3) (hk i (by omega)).2)
    obtain⟨p',n',q',e',a,b,d,g,w,v⟩:=t5 f (kas_rev p (n-(q+1)) n) (n+1) 0 (by omega) (by omega) (by rw[rY];omega) QM (λi h2 h3=>by
     have:i=n+1-1:=by omega
     rw[this];exact O.rf _)
    exact⟨p',n',q',e',a.trans (fG _ _ _),by omega,by omega,g,w,v⟩
   ·rw[if_neg UK]
    obtain⟨p',n',q',e',a,b,d,g,w,v⟩:=t5 f p (n+1) 0 (by omega) (by omega) (by omega) up (λi h2 h3=>by
     have:i=n+1-1:=by omega
     rw[this];exact O.rf _)
    exact⟨p',n',q',e',a,by omega,by omega,g,w,v⟩
  |false=>
   rw[if_neg cK];have e2:ev lt (KasT.ask (P p (n-1)) (P p n) λd=>if d=true then KasT.ret (p,n,q) else kas_desc f p (n+1) (q+1))=ev lt (if lt (P p (n-1)) (P p n)=true then KasT.ret (p,n,q) else kas_desc f p (n+1) (q+1)):=rfl;rw[e2];cases c2:lt (P p (n-1)) (P p n) with
   |true=>
    rw[if_pos rfl];exact⟨p,n,q,rfl, .refl _,bC _,by omega,hq,h,he⟩
   |false=>
    rw[if_neg cK]
    have up:ud lt p (n+1):=λi j h2 h3=>by
     by_cases hj:j<n
     ·exact h i j h2 hj
     ·by_cases hi:i=j
      ·subst hi;exact O.rf _
      ·have:j=n:=by omega
       subst this;exact O.fL c2 (h i (j-1) (by omega) (by omega))
    obtain⟨p',n',q',e',a,b,d,g,w,v⟩:=t5 f p (n+1) (q+1) (by omega) (by omega) (by omega) up (λi h2 h3=>by
     show Le lt (P p i) (P p n)
     by_cases hi:i=n
     ·subst hi;exact O.rf _
     ·exact O.fL (he i (by omega) (by omega)) c)
    exact⟨p',n',q',e',a,by omega,by omega,g,w,v⟩
theorem Jo{p:Array Nat}{n:Nat}(hz:n<=p.size)(h:ud lt p n):rh lt (kas_rev p 0 n) n:=λi j h2 h3=>by
 rw[rq hz,rq hz,if_pos ⟨cM _,by omega⟩,if_pos ⟨cM _,h3⟩]
 exact h _ _ (by omega) (by omega)
theorem By{p:Array Nat}{n nrem:Nat}(h1:1<=n)(hn:n<=nrem)(hz:nrem<=p.size)(h:ud lt p n):
  ∃m p',ev lt (kas_tail3 n nrem p)=(m,p')/\p'.Perm p/\1<=m/\m<=nrem/\rh lt p' m:=by
 unfold kas_tail3;rw[kj];obtain⟨a,b,c,_⟩:=yL O (p:=kas_rev p 0 n) (nrem-n) n h1 (Jo O (by omega) h)
 exact⟨_,_,rfl,fG _ _ _,by omega,by omega,a⟩
theorem pW{p:Array Nat}{n nrem:Nat}(h1:1<=n)(hn:n<nrem)(hz:nrem<=p.size)(h:ud lt p (n+1)):
  ∃m p',ev lt (kas_descPart n nrem p)=(m,p')/\p'.Perm p/\1<=m/\m<=nrem/\rh lt p' m:=by
 unfold kas_descPart;rw[kj]
 obtain⟨p',n',q',e',a,b,d,g,w,v⟩:=t5 O (nrem-(n+1)) p (n+1) 0 (by omega) (by omega) (by omega) h (λi h2 h3=>by
  have:i=n+1-1:=by omega
  rw[this];exact O.rf _)
 rw[e'];dsimp only;have HQ:p'.size=p.size:=a.size_eq
 by_cases hq:q'>0
 ·rw[if_pos hq]
  have hk:∀i,i<n'->Le lt (P (kas_rev p' (n'-(q'+1)) n') i) (P p' i)/\Le lt (P p' i) (P (kas_rev p' (n'-(q'+1)) n') i):=λi hi=>by
   rw[rq (by omega)]
   split
   ·rename_i hh
    have a1:=v i hh.1 hh.2;have a2:=v (n'-(q'+1)+n'-1-i) (by omega) (by omega)
    have b1:=w i (n'-1) (by omega) (by omega)
    have b2:=w (n'-(q'+1)+n'-1-i) (n'-1) (by omega) (by omega)
    exact⟨O.fL a2 b1,O.fL a1 b2⟩
   ·exact⟨O.rf _,O.rf _⟩
  have QM:ud lt (kas_rev p' (n'-(q'+1)) n') n':=λi j h2 h3=>O.fL (hk j h3).1 (O.fL (w i j h2 h3) (hk i (by omega)).2)
  obtain⟨m,p2,e2,a2,b2,c2,d2⟩:=By O (n:=n') (nrem:=nrem) (p:=kas_rev p' (n'-(q'+1)) n') (by omega) (by omega) (by rw[rY];omega) QM
  exact⟨m,p2,e2,a2.trans ((fG _ _ _).trans a),b2,c2,d2⟩
 ·rw[if_neg hq]
  rfl';obtain⟨m,p2,e2,a2,b2,c2,d2⟩:=By O (n:=n') (nrem:=nrem) (p:=p') (by omega) (by omega) (by omega) w
  ac_rfl;exact⟨m,p2,e2,a2.trans a,b2,c2,d2⟩
theorem EU{p:Array Nat}{nrem:Nat}(hn:1<=nrem)(hz:nrem<=p.size):∃m p',ev lt (kas_count nrem p)=(m,p')/\p'.Perm p/\1<=m/\m<=nrem/\rh lt p' m:=by
 unfold kas_count;rw[kj];rfl';obtain⟨a,b,c,d⟩:=yL O (p:=p) (nrem-1) 1 (bC _) (GF O);ac_rfl;generalize ev lt (kas_asc p (nrem-1) 1)=n at a b c d
 by_cases UD:n=nrem
 ·rw[if_pos (by simpa using UD)]
  exact⟨_,_,rfl, .refl _,by omega,by omega,a⟩
 ·rw[if_neg (by simpa using UD)]
  have cG:=d (by omega)
  by_cases h2:n>1
  ·rw[if_pos h2]
   have e:ev lt (KasT.ask (P p 0) (P p (n-1)) λc=>if c=true then KasT.ret (n,p) else kas_descPart n nrem (kas_rev p 0 n))=ev lt (if lt (P p 0) (P p (n-1))=true then KasT.ret (n,p) else kas_descPart n nrem (kas_rev p 0 n)):=rfl;show ∃m p',ev lt (KasT.ask (P p 0) (P p (n-1)) λc=>if c=true then KasT.ret (n,p) else kas_descPart n nrem (kas_rev p 0 n))=(m,p')/\_;rw[e];cases hc:lt (P p 0) (P p (n-1)) with
   |true=>
    rw[if_pos rfl];exact⟨_,_,rfl, .refl _,by omega,by omega,a⟩
   |false=>
    rw[if_neg cK];have MG:∀i j,i<n->j<n->Le lt (P p i) (P p j):=λi j hi hj=>O.fL (a i (n-1) (by omega) (by omega)) (O.fL hc (a 0 j (by omega) hj))
    have ds:ud lt (kas_rev p 0 n) (n+1):=λi j h3 h4=>by
     rw[rq (by omega),rq (by omega)]
     by_cases hj:j<n
     ·rw[if_pos ⟨cM _,hj⟩,if_pos ⟨cM _,by omega⟩]
      exact MG _ _ (by omega) (by omega)
     ·have hjn:j=n:=by omega
      subst hjn;rw[if_neg (by omega)]
      by_cases hi:i<j
      ·rw[if_pos ⟨cM _,hi⟩]
       exact O.fL (O.as cG) (MG _ _ (by omega) (by omega))
      ·rw[if_neg (by omega)]
       have:i=j:=by omega
       subst this;exact O.rf _
    rfl';obtain⟨m,p2,e2,a2,b2,c2,d2⟩:=pW O (n:=n) (nrem:=nrem) (p:=kas_rev p 0 n) (by omega) (by omega) (by rw[rY];omega) ds
    ac_rfl;exact⟨m,p2,e2,a2.trans (fG _ _ _),b2,c2,d2⟩
  ·rw[if_neg h2]
   have h1:n=1:=by omega
   subst h1
   have ds:ud lt p (1+1):=λi j h3 h4=>by
    by_cases hi:i=j
    ·subst hi;exact O.rf _
    ·have hj:j=1:=by omega
     have gJ:i=0:=by omega
     subst hj gJ;exact O.as cG
   exact pW O (n:=1) (nrem:=nrem) (p:=p) (by omega) (by omega) hz ds
theorem rW{p:Array Nat}{k:Nat}(h:rh lt p k):∀(f l r:Nat),r<=l+f->l<=r->r<=k->(∀i,i<l->Le lt (P p i) (P p k))->(∀i,r<=i->i<k->lt (P p k) (P p i)=true)->
  ev lt (kas_place p k f l r)<=k/\(∀i,i<ev lt (kas_place p k f l r)->Le lt (P p i) (P p k))/\(∀i,ev lt (kas_place p k f l r)<=i->i<k->lt (P p k) (P p i)=true)
 |0,l,r,h1,h2,h3,h4,h5=>by
  have e:l=r:=by omega
  subst e;exact⟨h3,h4,h5⟩
 |f+1,l,r,h1,h2,h3,h4,h5=>by
  by_cases UB:l>=r
  ·have e:ev lt (kas_place p k (f+1) l r)=l:=by
    show ev lt (if l>=r then KasT.ret l else _)=l;rw[if_pos UB];rfl
   have e2:l=r:=by omega
   rw[e];subst e2;exact⟨h3,h4,h5⟩
  ·have e:ev lt (kas_place p k (f+1) l r)=ev lt (if lt (P p k) (P p ((l+r) / 2))=true then kas_place p k f l ((l+r) / 2) else kas_place p k f ((l+r) / 2+1) r):=by
    show ev lt (if l>=r then KasT.ret l else _)=_;rw[if_neg UB];rfl
   rw[e];cases c:lt (P p k) (P p ((l+r) / 2)) with
   |true=>
    rw[if_pos rfl];refine rW h f l ((l+r) / 2) (by omega) (by omega) (by omega) h4 λi hi hk=>?_
    rcases O.neg _ (P p i) _ c with z|z
    ·exact z
    ·have:=h ((l+r) / 2) i hi hk
     unfold Le at this;rw[this] at z;cases z
   |false=>
    rw[if_neg cK];exact rW h f ((l+r) / 2+1) r (by omega) (by omega) h3 (λi hi=>O.fL (h i ((l+r) / 2) (by omega) (by omega)) c) h5
theorem DZ:∀(f:Nat)(p:Array Nat)(k:Nat),k+f<=p.size->rh lt p k->∃p',ev lt (kas_bin f p k)=p'/\p'.Perm p/\rh lt p' (k+f)
 |0,p,k,_,h=>⟨p,rfl, .refl _,h⟩
 |f+1,p,k,hz,h=>by
  have e:ev lt (kas_bin (f+1) p k)=ev lt (kas_bin f (bubble p k (k-ev lt (kas_place p k k 0 k))) (k+1)):=by
   show ev lt ((kas_place p k k 0 k).bind λl=>kas_bin f (bubble p k (k-l)) (k+1))=_;rw[kj]
  rw[e];obtain⟨a,b,c⟩:=rW O h k 0 k (by omega) (cM _) (bC _) (λi hi=>absurd hi (Nat.not_lt_zero _)) (λi h1 h2=>absurd h2 (by omega))
  generalize ev lt (kas_place p k k 0 k)=l at a b c
  have hb:∀x,P (bubble p k (k-l)) x=if x=l then P p k else if l<x/\x<=k then P p (x-1) else P p x:=λx=>by
   have q:=getElem?_bubble (xs:=p) (src:=k) (by omega) (k-l) (by omega) x
   have e1:k-(k-l)=l:=by omega
   rw[e1] at q
   split
   ·rename_i hh;rw[if_pos hh] at q;exact zT q
   ·rename_i hh
    rw[if_neg hh] at q
    split
    ·rename_i h2;rw[if_pos h2] at q;exact zT q
    ·rename_i h2;rw[if_neg h2] at q;exact zT q
  have up:rh lt (bubble p k (k-l)) (k+1):=λi j h1 h2=>by
   rw[hb,hb]
   by_cases e1:i=l
   ·rw[if_pos e1]
    by_cases e2:j=l
    ·rw[if_pos e2];exact O.rf _
    ·rw[if_neg e2,if_pos ⟨by omega,by omega⟩]
     exact O.as (c (j-1) (by omega) (by omega))
   ·rw[if_neg e1]
    by_cases e2:j=l
    ·rw[if_pos e2,if_neg (by omega)]
     exact b i (by omega)
    ·rw[if_neg e2]
     by_cases e3:l<i
     ·rw[if_pos ⟨e3,by omega⟩,if_pos ⟨by omega,by omega⟩]
      exact h _ _ (by omega) (by omega)
     ·rw[if_neg (by omega)]
      by_cases e4:l<j
      ·rw[if_pos ⟨e4,by omega⟩]
       exact h _ _ (by omega) (by omega)
      ·rw[if_neg (by omega)]
       exact h _ _ h1 (by omega)
  obtain⟨p',e',a',b'⟩:=DZ f (bubble p k (k-l)) (k+1) (by rw[bubble_size];omega) up
  exact⟨p',e',a'.trans (bubble_perm _ _ _),by rw[show k+(f+1)=k+1+f by omega];exact b'⟩
theorem Bo{n:Nat}(hn:1<=n):∃p,ev lt (kas_sort n)=p/\p.toList.Perm (List.range n)/\p.toList.Pairwise (Le lt):=by
 have pw:∀p:Array Nat,p.size=n->rh lt p n->p.toList.Pairwise (Le lt):=λp hz h=>by
  rw[DL];intro i j hi hj KU;have gJ:i<p.size:=by simpa using hi
  have KW:j<p.size:=by simpa using hj
  have q:=h i j (by omega) (by omega)
  unfold P at q;simpa [Array.getD,gJ,KW] using q
 unfold kas_sort;rw[kj];rfl';obtain⟨m,p',e',a,b,c,d⟩:=EU O (p:=List.toArray (List.range n)) hn (by simp)
 ac_rfl;rw[e'];dsimp only;have HQ:p'.size=n:=by rw[a.size_eq];simp
 have pl:p'.toList.Perm (List.range n):=by simpa using DJ.mp a
 by_cases hm:m<n
 ·rw[if_pos hm]
  obtain⟨p2,e2,a2,b2⟩:=DZ O (n-max m 1) p' (max m 1) (by omega) (by rw[show max m 1=m by omega];exact d)
  refine⟨p2,e2,(DJ.mp a2).trans pl,pw p2 (by rw[a2.size_eq,HQ]) ?_⟩
  rw[show max m 1+(n-max m 1)=n by omega] at b2
  exact b2
 ·rw[if_neg hm]
  have:m=n:=by omega
  subst this;exact⟨p',rfl,pl,pw p' HQ d⟩
end
def gb{α:Type}(n:Nat)(Q:α->Prop):KasT α->Prop
 | .ret a=>Q a
 | .ask i j k=>i<n/\j<n/\∀b,gb n Q (k b)
theorem gM{α:Type}{n:Nat}{Q Q':α->Prop}(h:∀a,Q a->Q' a):∀t:KasT α,gb n Q t->gb n Q' t
 | .ret a,z=>h a z
 | .ask _ _ k,z=>⟨z.1,z.2.1,λb=>gM h (k b) (z.2.2 b)⟩
theorem allI_bind{α β:Type}{n:Nat}{Q:β->Prop}{f:α->KasT β}:∀t:KasT α,gb n (λa=>gb n Q (f a)) t->gb n Q (t.bind f)
 | .ret _,z=>z
 | .ask _ _ k,z=>⟨z.1,z.2.1,λb=>allI_bind (k b) (z.2.2 b)⟩
def nZ(n:Nat)(p:Array Nat):Prop:=0<n/\∀x∈p.toList,x<n
theorem nZ.at{n:Nat}{p:Array Nat}(h:nZ n p)(i:Nat):p.getD i 0<n:=by
 rw[sY];cases q:p[i]? with
 |none=>exact h.1
 |some x=>
  refine h.2 x ?_;rw[<-kL] at q;exact e9 q
theorem nZ.perm{n:Nat}{p q:Array Nat}(h:nZ n p)(hp:q.Perm p):nZ n q:=⟨h.1,λx hx=>h.2 x ((DJ.mp hp).mem_iff.mp hx)⟩
theorem uo{n:Nat}{p:Array Nat}(h:nZ n p):∀f m,gb n (λ_=>True) (kas_asc p f m)
 |0,_=>trivial
 |f+1,m=>⟨h.at _,h.at _,λb=>by cases b with|true=>exact trivial|false=>exact uo h f (m+1)⟩
theorem nQ{n:Nat}:∀(f:Nat)(p:Array Nat)(m q:Nat),nZ n p->gb n (λr=>nZ n r.1) (kas_desc f p m q)
 |0,p,m,q,h=>h
 |f+1,p,m,q,h=>⟨h.at _,h.at _,λb=>by
  cases b with
  |true=>
   show gb n _ (if q>0 then kas_desc f (kas_rev p (m-(q+1)) m) (m+1) 0 else kas_desc f p (m+1) 0)
   split
   ·exact nQ f _ _ _ (h.perm (fG _ _ _))
   ·exact nQ f _ _ _ h
  |false=>
   refine⟨h.at _,h.at _,λd=>?_⟩;cases d with
   |true=>exact h
   |false=>exact nQ f _ _ _ h⟩
theorem yx{n:Nat}{p:Array Nat}(h:nZ n p)(m nrem:Nat):gb n (λr=>nZ n r.2) (kas_tail3 m nrem p):=
 allI_bind _ (gM (λ_ _=>h.perm (fG _ _ _)) _ (uo (h.perm (fG _ _ _)) _ _))
theorem om{n:Nat}{p:Array Nat}(h:nZ n p)(m nrem:Nat):gb n (λr=>nZ n r.2) (kas_descPart m nrem p):=
 allI_bind _ (gM (λr hr=>by
  show gb n _ (if r.2.2>0 then _ else _)
  split
  ·exact yx (hr.perm (fG _ _ _)) _ _
  ·exact yx hr _ _) _ (nQ _ _ _ _ h))
theorem BY{n:Nat}{p:Array Nat}(h:nZ n p)(nrem:Nat):gb n (λr=>nZ n r.2) (kas_count nrem p):=
 allI_bind _ (gM (λm _=>by
  show gb n _ (if (m==nrem)=true then _ else _)
  split
  ·exact h
  ·split
   ·refine⟨h.at _,h.at _,λb=>?_⟩
    cases b with
    |true=>exact h
    |false=>exact om (h.perm (fG _ _ _)) _ _
   ·exact om h _ _) _ (uo h _ _))
theorem pD{n:Nat}{p:Array Nat}(h:nZ n p)(k:Nat):∀f l r,gb n (λ_=>True) (kas_place p k f l r)
 |0,_,_=>trivial
 |f+1,l,r=>by
  show gb n _ (if l>=r then _ else _)
  split
  ·exact trivial
  ·refine⟨h.at _,h.at _,λb=>?_⟩
   cases b with
   |true=>exact pD h k f _ _
   |false=>exact pD h k f _ _
theorem z4{n:Nat}:∀(f:Nat)(p:Array Nat)(k:Nat),nZ n p->gb n (λ_=>True) (kas_bin f p k)
 |0,_,_,_=>trivial
 |f+1,p,k,h=>allI_bind _ (gM (λl _=>z4 f _ _ (h.perm (bubble_perm _ _ _))) _ (pD h k _ _ _))
theorem yr{n:Nat}(hn:0<n):gb n (λ_=>True) (kas_sort n):=
 allI_bind _ (gM (λr hr=>by
  show gb n _ (if r.1<n then _ else _)
  split
  ·exact z4 _ _ _ hr
  ·exact trivial) _ (BY (n:=n) (p:=List.toArray (List.range n)) ⟨hn,λx hx=>cT.mp (by simpa using hx)⟩ n))
theorem DD{α:Type}{cmp:Nat->Nat->(Bool->Shared->Prop)->Shared->Prop}{lt:Nat->Nat->Bool}{s:Shared}{Q:α->Shared->Prop}{n:Nat}
  (hc:∀i j (C:Bool->Shared->Prop),i<n->j<n->C (lt i j) s->cmp i j C s):∀t:KasT α,gb n (λ_=>True) t->Q (ev lt t) s->t.kasWp cmp Q s
 | .ret _,_,h=>h
 | .ask i j k,z,h=>hc i j _ z.1 z.2.1 (DD hc (k (lt i j)) (z.2.2 _) h)
section
variable {prog:Program} {w:World} {A:Around} {E:Value->Shared->Prop} {s:Shared}
theorem Bp{a:Addr}{vs:List Value}{n:Nat}{G:PySem.Fin->Shared->Prop}(ho:s.heap.get? a=some (seqObj "list" vs.toArray n))(h2:vs.length<2)
  (h:G (.done (.ret .none)) {s with heap:=sortedHeap s.heap a vs vs.toArray}):wpAny (model prog w) A (Builtin.«list.sort» ⟨[.ref a],[]⟩) G E s:=by
 rw[list_sort_plain];have la:a<s.heap.objs.size:=Heap.lt_size ho;refine wpAny_bind (listItems_at ho rfl (wpAny_bind (listUpdate_at ho rfl ?_)));obtain⟨e1,y9⟩:∃k,(s.heap.update a (Obj.mapSeq λ_=> #[])).get? a=some (seqObj "list" #[] k):=⟨_,get?_update_seq ho (λ_=> #[])⟩;refine wpAny_bind (seqEpoch_at y9 rfl (wpAny_bind (wpAny_newTuple (wpAny_bind (wpAny_newList (wpAny_holding ?_))))));have UE:(((s.heap.update a (Obj.mapSeq λ_=> #[])).push (seqObj "tuple" vs.toArray 0)).push (seqObj "list" #[] 0)).get? a=some (seqObj "list" #[] e1):=Heap.get?_push_of_some _ (Heap.get?_push_of_some _ y9);show wpAny (model prog w) A _ G E {s with heap:=((s.heap.update a (Obj.mapSeq λ_=> #[])).push (seqObj "tuple" vs.toArray 0)).push (seqObj "list" #[] 0)}
 dsimp only;have lz:vs.toArray.size<2:=h2;rw[if_pos lz,if_pos lz];refine wpAny_bind (wpAny_pure ?_);rw[StateT.run_pure];refine wpAny_bind (wpAny_pure ?_);dsimp only
 have ez:(arrOf (SortSt.mk' general' (vs.toArray.zip vs.toArray) #[] 7 none)).map (·.2)=vs.toArray:=by
  show(vs.toArray.zip vs.toArray).map (·.2)=vs.toArray;apply Array.toList_inj.mp;simp[List.map_snd_zip]
 refine wpAny_bind (seqEpoch_at UE rfl (wpAny_bind (listUpdate_at UE rfl ?_ (hsz2:=by rw[ez];rw[sizeLine_eq];omega))))
 simp only[bne_self_eq_false,hV,if_false];have h':=h;unfold sortedHeap at h';rw[ez];exact wpAny_pure h'
theorem oH{l:Addr}{vs:List Value}{G:Value->Shared->Prop}(hl:s.heap.IsList l vs.toArray)(h2:vs.length<2)(h:G (.ref (s.heap.objs.size+1)) {s with heap:=sortedAll s.heap vs vs.toArray}):
  wpAny (model prog w) A (call (.builtin "sorted") [.ref l]) G E s:=by
 refine Calls.call_function_entry kind_sorted plain_sorted entry_sorted (args_sorted1 (.ref l)) ?_;unfold Builtin.«sorted»;have l2:vs.length<=sizeLine:=by rw[sizeLine_eq];omega
 refine wpAny_bind (m:=checkCount "sorted" 1 1 _) (wpAny_pure (wpAny_bind (collect_list hl (wpAny_bind (wpAny_newList ?_ l2)) l2)));have z1:((s.heap.push (seqObj "list" #[] 0)).update s.heap.objs.size (Obj.mapSeq (·++vs.toArray))).objs.size=s.heap.objs.size+1:=by rw[Heap.size_update,size_push']
 have z2:(((s.heap.push (seqObj "list" #[] 0)).update s.heap.objs.size (Obj.mapSeq (·++vs.toArray))).push (seqObj "list" vs.toArray 0)).get? (s.heap.objs.size+1)=some (seqObj "list" vs.toArray 0):=by
  rw[<-z1];exact Heap.get?_push_size _ rfl
 show wpAny (model prog w) _ _ _ E {s with heap:=((s.heap.push (seqObj "list" #[] 0)).update s.heap.objs.size (Obj.mapSeq (·++vs.toArray))).push (seqObj "list" vs.toArray 0)}
 rw[z1];exact wpAny_bind (wpAny_holding (wpAny_call_entry slot_list_sort ⟨_,z2,rfl⟩ entry_list_sort (Bp z2 h2 ⟨_,rfl,wpAny_pure ⟨_,rfl,h⟩⟩) (args_list_sort _)))
end
end KS
namespace L2
open PySem PySem.Spec PyProof.Rows
section
variable {X:Cx} {pins:List (Addr×Obj)} {σ:St} {H:Hp} {s:Shared} {h':Heap}
theorem Inv.HX{t':Nat}{t:Addr}{o:HO}(I:Inv X pins σ H s)(k:∀b o,b≠X.env.locals->s.heap.get? b=some o->h'.get? b=some o)(ns:∀m,s.heap.Ns X.env.locals m->h'.Ns X.env.locals m)
  (ht:s.heap.get? t=none) (nt:H t=none) (new:cP X.prog X.w (upd H t o) h' t o):Inv X pins σ (upd H t o) {s with heap:=h',toks:=t'}:=by
 have up:∀b u,H b=some u->upd H t o b=some u:=λb u e=>by rw[aw (aR e nt)];exact e
 have nL:∀b u,H b=some u->b≠X.env.locals:=λb u e z=>by rw[z,I.free] at e;cases e
 refine I.step (g':=s.gens) (d':=s.drawn) (ch:= []) (λb hb=>by cases hb) (λb o hb _ _ e _=>k b o hb e) (λb o hb _ _ e _=>⟨o.slots,k b o hb e⟩) (λb o _ e n=>?_)
  (λb o _ e=>?_) (λb xs e=>up b _ e) (λb _ _ e=>up b _ e) (λb ps e=>⟨#[],by rw[up b _ e];simp⟩) ns (λb u e=>?_) I.bare
 ·rw[aw (λz=>by rw[z,ht] at e;cases e)];exact n
 ·by_cases hb:b=X.env.locals
  ·obtain⟨m,hm,_⟩:=I.loc
   obtain⟨o',_,_,g7,_⟩:=ns m hm;rw[hb];exact⟨o',g7⟩
  ·exact⟨o,k b o hb e⟩
 ·by_cases hb:b=t
  ·subst hb
   rw[av] at e;cases Option.some.inj e;exact new
  ·rw[aw hb] at e
   refine(I.hok b u e).qP (λc v hc q=>k c v ?_ q) (λb' q=>up b' _ q) λb' _ q=>up b' _ q
   rcases hc with z|z
   ·rw[z];exact nL b u e
   ·exact nL c _ z
end
def CW(k:Nat×Nat):List V:= [.int (k.1:Nat), .int (k.2:Nat)]
def EN(H:Hp)(L:List (Addr×(Nat×Nat))):Prop:=∀p∈L,H p.1=some (.tup (CW p.2))
def jk(a b:Nat×Nat):Bool:=if a.1=b.1 then decide (a.2<b.2) else decide (a.1<b.1)
theorem rM(x y:Nat×Nat):jk x y=true↔x.1<y.1\/(x.1=y.1/\x.2<y.2):=by
 unfold jk
 by_cases e:x.1=y.1
 ·rw[if_pos e,decide_eq_true_iff]
  omega
 ·rw[if_neg e,decide_eq_true_iff]
  omega
theorem Fw(x y z:Nat×Nat)(h:jk x z=true):jk x y=true\/jk y z=true:=by
 rw[rM] at*;rw[rM];omega
theorem HZ(x y z:Nat×Nat)(h:jk x y=true)(h':jk y z=true):jk x z=true:=by
 rw[rM] at*;omega
theorem Fx(L:List (Addr×(Nat×Nat))):KS.Ord λi j=>jk (L.getD i (0,(0,0))).2 (L.getD j (0,(0,0))).2 where
 irr:=λa=>by unfold jk;rw[if_pos rfl];simp
 neg:=λa b c h=>Fw _ _ _ h
 tr:=λa b c h h'=>HZ _ _ _ h h'
theorem HY{a b:Nat×Nat}(h:jk b a=false):Wb.lexLe a b:=by
 unfold jk at h;unfold Wb.lexLe
 by_cases e:b.1=a.1
 ·rw[if_pos e] at h
  have:=of_decide_eq_false h
  right;omega
 ·rw[if_neg e] at h
  have:=of_decide_eq_false h
  left;omega
theorem Lb{prog:Program}{w:World}{A:Around}{E:Value->Shared->Prop}{s:Shared}{x y:Addr}{a1 a2 b1 b2:Int}{t1 t2 u1 u2:Tok}{C:Bool->Shared->Prop}
  (hx:IsTup s.heap x [.int a1 t1, .int a2 t2].toArray) (hy:IsTup s.heap y [.int b1 u1, .int b2 u2].toArray)
  (h:C (if a1=b1 then decide (a2<b2) else decide (a1<b1)) s):wpAny (model prog w) A (keyLt' (tuples' true) (.ref x) (.ref y)) C E s:=by
 rfl';obtain⟨ox,hox,_,nx,dx⟩:=hx;obtain⟨oy,hoy,_,ny,dy⟩:=hy;ac_rfl;refine PySem.W.kat_lt hox dx hoy dy ?_;refine PySem.W.kat_cons (SeqAt.EqAt.int_int a1 t1 b1 u1 prog w _ _ ?_)
 by_cases e1:a1=b1
 ·rw[if_pos e1] at h
  rw[show(a1==b1)=true by simpa using e1]
  refine PySem.W.kat_yes (PySem.W.kat_cons (SeqAt.EqAt.int_int a2 t2 b2 u2 prog w _ _ ?_))
  by_cases e2:a2=b2
  ·rw[show(a2==b2)=true by simpa using e2]
   refine PySem.W.kat_yes (PySem.W.kat_nil ?_);rw[show decide (a2<b2)=false by simp;omega] at h
   simpa using h
  ·rw[show(a2==b2)=false by simpa using e2]
   refine PySem.W.kat_no (PySem.W.kat_one _ _ ?_);exact lt_int h
 ·rw[if_neg e1] at h
  rw[show(a1==b1)=false by simpa using e1]
  exact PySem.W.kat_no (oneLt_int h)
section
variable {X:Cx}
theorem uY{α:Type}{L:List α}{d:α}{π:List Nat}(h:π.Perm (List.range L.length)):(π.map λi=>L.getD i d).Perm L:=by
 have e:(List.range L.length).map (λi=>L.getD i d)=L:=by
  apply wo;intro i;rw[cA]
  by_cases hi:i<L.length
  ·rw[bO (by simpa using hi),bO hi]
   simp[hi]
  ·rw[fi (by simp;omega),fi (by omega)];rfl
 have:=h.map (λi=>L.getD i d)
 rw[e] at this;exact this
theorem pK:∀{as:List Addr}{us:List Value},Vals (as.map V.ref) us->us=as.map Value.ref
 | [],_, .nil=>rfl
 |a::as,_, .cons r t=>by cases r;rw[pK t];rfl
theorem pF:∀as:List Addr,Vals (as.map V.ref) (as.map Value.ref)
 | []=> .nil
 |a::as=> .cons rfl (pF as)
theorem Es{P:Program}{w:World}{H:Hp}{h:Heap}{a:Addr}{o:HO}(x:cP P w H h a o):∃u,h.get? a=some u:=by
 induction o with
 |lst xs=>obtain⟨_,_,_,_,e⟩:=x;exact⟨_,e⟩
 |tup xs=>obtain⟨_,_,_,ob,e,_⟩:=x;exact⟨_,e⟩
 |dK eH=>obtain⟨_,_,_,_,ob,_,_,e,_⟩:=x;exact⟨_,e⟩
 |dT eH=>obtain⟨_,_,_,_,ob,_,_,e,_⟩:=x;exact⟨_,e⟩
 |set S n=>obtain⟨ob,_,_,_,e,_⟩:=x;exact⟨_,e⟩
 |ins C dx fs=>obtain⟨_,_,_,e,_⟩:=x;exact⟨_,e⟩
 |own y=>exact x
 |xd fs=>obtain⟨_,⟨od,_,_,e,_⟩,_⟩:=x;exact⟨_,e⟩
 |rng lo hi=>obtain⟨_,_,_,e⟩:=x;exact⟨_,e⟩
 |oX ob u ih=>exact⟨_,x.1⟩
 |Bz ps=>exact⟨_,x⟩
 |met f y=>exact⟨_,x⟩
 |ext φ=>exact x.2.1
theorem ya{pins:List (Addr×Obj)}{σ:St}{H:Hp}{s:Shared}{a:Addr}{k:Nat×Nat}(I:Inv X pins σ H s)(h:H a=some (.tup (CW k))):
  ∃t u,IsTup s.heap a [.int (k.1:Nat) t, .int (k.2:Nat) u].toArray:=by
 rfl';obtain⟨its,r,p,_⟩:=I.tuple (gq.of h);obtain⟨u1,u2,rfl,⟨t,rfl⟩,⟨u,rfl⟩⟩:=Vals.two r;ac_rfl;exact⟨t,u,p⟩
theorem wF(hu:X.A.units+64<cLine):eM X (.builtin "sorted") (λxs H Q=>∃(p:Addr)(L:List (Addr×(Nat×Nat))),xs= [.ref p]/\bU X.K H p (L.map λe=>V.ref e.1)/\EN H L/\L.length<64/\
  ∀(q:Addr)(M:List (Addr×(Nat×Nat))),H q=none->M.Perm L->(M.map (·.2)).Pairwise Wb.lexLe->Q (.ref q) (upd H q (.lst (M.map λe=>V.ref e.1)))):=by
 intro pins s σ H xs us Q I rv h;rfl';obtain⟨p,L,rfl,hp,hL,hz,q⟩:=h;obtain⟨u,rfl,ru⟩:=rv.one;subst ru;obtain⟨its,r,pl,_⟩:=I.list hp;have hl:=r.length;rw[aG] at hl;have eU:64<=sizeLine:=by decide
 ac_rfl
 have ei:its=L.map λe=>Value.ref e.1:=by
  have:=pK (as:=L.map (·.1)) (us:=its) (by rw[eF];exact r)
  rw[this,eF];rfl
 by_cases h2:L.length<2
 ·refine KS.oH pl.isList (by omega) ?_
  obtain⟨e,he⟩:=sortedAll_at s.heap its its.toArray;have fr:H (s.heap.objs.size+1)=none:=I.hok.fresh (rb _);refine⟨.ref (s.heap.objs.size+1),_,I.laid (t':=s.toks) (λb o hb=>sortedAll_old hb) (rb _) (o:= .lst (L.map λe=>V.ref e.1)) ⟨by rw[aG];omega,its,e,r,he⟩,rfl,q _ L fr (.refl _) ?_⟩
  match L,h2 with
  | [],_=>exact .nil
  | [_],_=>exact List.pairwise_singleton _ _
 ·obtain⟨m,F⟩:=I.fr
  have N:=xW (g:=X.base) (h:=s.heap) (L:=X.env.locals);refine PySem.W.kat_sorted F N pl.isList (by omega) (by omega) λD e1 h' F' N' hD=>?_
  have kept:∀b o,b≠X.env.locals->s.heap.get? b=some o->h'.get? b=some o:=λb o hb e=>by
   cases qb:X.base.get? b with
   |some u=>
    have:=I.bk b u qb
    rw[e] at this;cases this;exact F'.keep b _ qb
   |none=>exact(N' (b,o) (bP _ (eV hb qb e))).1
  have nL:∀b u,H b=some u->b≠X.env.locals:=λb u e z=>by rw[z,I.free] at e;cases e
  have Dt:∀i,i<L.length->∃t u,its.getD i Value.none= .ref (L.getD i (0,(0,0))).1/\IsTup h' (L.getD i (0,(0,0))).1 [.int ((L.getD i (0,(0,0))).2.1:Nat) t, .int ((L.getD i (0,(0,0))).2.2:Nat) u].toArray:=λi hi=>by
   have hm:L.getD i (0,(0,0))∈L:=by
    rw[aV,bO hi];exact wq hi
   rfl';obtain⟨t,u,o,ho,hc,n,hd⟩:=ya I (hL _ hm);ac_rfl;refine⟨t,u,?_,o,kept _ _ (nL _ _ (hL _ hm)) ho,hc,n,hd⟩;rw[ei,aV,cA,aV,bO hi];rfl
  have tups:PySem.W.KatTups h' its (L.map λe=>Value.int (e.2.1:Nat) 0)\/∃fs:List Value,PySem.W.KatTups h' its fs/\fs.length=L.length/\∀v∈fs,∃i t,v= .int i t:=by
   right
   have go:∀(M:List (Addr×(Nat×Nat))),(∀e∈M,e∈L)->∃fs:List Value,PySem.W.KatTups h' (M.map λe=>Value.ref e.1) fs/\fs.length=M.length/\∀v∈fs,∃i t,v= .int i t:=by
    intro M
    induction M with
    |nil=>exact λ_=>⟨[],PySem.W.KatTups.nil,rfl,λv hv=>by cases hv⟩
    |cons e M ih=>
     intro hM;rfl';obtain⟨fs,a,b,c⟩:=ih λx hx=>hM x (bP _ hx);have he:=hL e (hM e b6);obtain⟨t,u,o,ho,hc,n,hd⟩:=ya I he;ac_rfl;refine⟨.int (e.2.1:Nat) t::fs,PySem.W.KatTups.cons (kept _ _ (nL _ _ he) ho) hc hd rfl a,by simp[b],λv hv=>?_⟩
     rcases cm.mp hv with z|z
     ·exact⟨_,_,z⟩
     ·exact c v z
   rw[ei];exact go L λ_ h=>h
  obtain⟨fs,kt,kl,ki⟩:=tups.elim (λz=>⟨_,z,by simp,λv hv=>by obtain⟨e,_,rfl⟩:=b8.mp hv;exact⟨_,_,rfl⟩⟩) id
  refine PySem.W.kat_kind (T:= .type "int") kt (by omega) (λv hv=>by obtain⟨i,t,rfl⟩:=ki v hv;exact .now) (by decide) ?_
  have hb:(Value.type "int" !=Value.type "tuple")=true:=by decide
  rw[hb];have hn:its.length=L.length:=by omega
  rw[hn];obtain⟨π,O5,pp,ps⟩:=KS.Bo (Fx L) (n:=L.length) (by omega)
  refine KS.DD (lt:=λi j=>jk (L.getD i (0,(0,0))).2 (L.getD j (0,(0,0))).2) (n:=L.length) (λi j C hi hj hC=>?_) _ (KS.yr (by omega)) ?_
  ·obtain⟨t1,t2,g1,k1⟩:=Dt i hi
   obtain⟨u1,u2,g2,k2⟩:=Dt j hj;unfold PySem.W.kas_ask;rw[g1,g2];refine Lb k1 k2 ?_
   have e:(if ((L.getD i (0,(0,0))).2.1:Int)=((L.getD j (0,(0,0))).2.1:Int) then decide (((L.getD i (0,(0,0))).2.2:Int)<((L.getD j (0,(0,0))).2.2:Int)) else decide (((L.getD i (0,(0,0))).2.1:Int)<((L.getD j (0,(0,0))).2.1:Int)))
     =jk (L.getD i (0,(0,0))).2 (L.getD j (0,(0,0))).2:=by
    unfold jk;simp only[Int.ofNat_inj,Int.ofNat_lt]
   rw[e];exact hC
  ·show PySem.W.KasFin _ _ _ _ _ _ _ _
   rw[O5];refine PySem.W.KasFin.intro F' N' (.head λp hp=>dD (hD p hp)) λh2 c F2 N2=>?_
   have Cw:∀b o,b≠X.env.locals->s.heap.get? b=some o->h2.get? b=some o:=λb o hb e=>by
    cases qb:X.base.get? b with
    |some u=>
     have:=I.bk b u qb
     rw[e] at this;cases this;exact F2.keep b _ qb
    |none=>exact(N2 (b,o) (bP _ (eV hb qb e))).1
   obtain⟨_,Hv,Ph⟩:=N' (D,seqObj "list" #[] e1) b6
   have Hx:s.heap.get? D=none:=by
    cases qd:s.heap.get? D with
    |none=>rfl
    |some o=>exact absurd (hD (D,o) (eV Hv Ph qd)) (fz _)
   have Hu:H D=none:=by
    cases qd:H D with
    |none=>rfl
    |some o=>exact absurd Hv (λ_=>by
      obtain⟨o',g7⟩:=Es (I.hok D o qd);rw[Hx] at g7;cases g7)
   have Qb:∀m',s.heap.Ns X.env.locals m'->h2.Ns X.env.locals m':=λm' og=>by
    rw[og.eq_nsMap,<-F.ns.eq_nsMap];exact F2.ns
   have Hz:(π.toList.map λi=>L.getD i (0,(0,0))).Perm L:=uY pp;have Hw:=(N2 (D,_) b6).1;refine⟨.ref D,_,I.HX (t':=s.toks) Cw Qb Hx Hu (o:= .lst ((π.toList.map λi=>L.getD i (0,(0,0))).map λe=>V.ref e.1)) ⟨by rw[aG,Hz.length_eq];omega,(π.toList.map λi=>its.getD i Value.none),c,?_,Hw⟩,rfl,q D _ Hu Hz ?_⟩
   ·have e:(π.toList.map λi=>its.getD i Value.none)=((π.toList.map λi=>L.getD i (0,(0,0))).map (·.1)).map Value.ref:=by
     rw[eF,eF];refine List.map_congr_left λi hi=>?_;obtain⟨_,_,g,_⟩:=Dt i (cT.mp (pp.mem_iff.mp hi));exact g
    rw[e,show(λe:Addr×(Nat×Nat)=>V.ref e.1)=V.ref∘(·.1) from rfl,<-eF];exact pF _
   ·rw[eF,lZ]
    exact ps.imp λhle=>HY hle
end
end L2
set_option maxHeartbeats 4000000
namespace L2
open PySem PySem.Spec PyProof.Rows
def YM(a:Addr)(fs:List (Str×V)):HO:= .ext λh=>fs.length<=1000/\∃mA,h.Ns1 a mA/\(∀f,mw (fs.lookup f) (mA f))/\PySem.Within mA (fs.map (·.1))
section
variable {P:Program} {w:World} {H:Hp} {h:Heap} {a C:Addr} {d:Option Addr} {fs:List (Str×V)}
end
section
variable {X:Cx} {pins:List (Addr×Obj)} {σ:St} {H:Hp} {s:Shared}
variable {a C:Addr} {fs:List (Str×V)} {f:Str} {v:V} {A:Around} {E:Value->Shared->Prop}
end
section
variable {X:Cx} {o e value:Expr} {f:Str} {pos pos' JU:Pos} {ta tv:TE}
end
theorem cj.of{X:Cx}{scope:Scope}(sc:Scope)(e:X.env.scope=sc)(k:scope.kind= .function)(a:∀x∈scope.names,x.2= .local->scope.names.lookup x.1=some .local)(b:∀x∈scope.names,x.2≠ .cell)
  (c:∀x∈scope.names,x.2= .free->sc.names.lookup x.1=some .cell\/sc.names.lookup x.1=some .free):cj X scope:=⟨k,a,b,λx hx hf=>by rw[<-e] at c;exact c x hx hf⟩
structure dF (K:PySem.W.Frag) (mg:Str->Option Value) (x:Str) (st:Stmt) (ps:List Str) where
 f:Addr
 fd:FuncData
 F:ue K x x st f fd
 b:Binds K fd ps []
 m:mg x=some (.ref f)
theorem aW{H:Hp}{p:Addr}(h:H p=none)(o:HO):aK H (upd H p o):=λb u q=>by rw[aw (aR q h)];exact q
theorem small{n:Nat}(h:n<=1000):n<=sizeLine:=qZ (f7 h)
open PySem.Calls
abbrev Nw(C t:Addr)(tb:Value)(d:Option Addr):Obj:={cls:= .ref C,dict:=d,data:= .fields #[.ref t,tb, .none, .none, .bool false, .none]}
def Q2(C a:Addr)(d:Option Addr):HO:= .ext λh=>∃t tb,h.get? a=some (Nw C t tb d)
section
variable {P:Program} {w:World} {H:Hp} {h:Heap} {a C:Addr} {d:Option Addr}
end
def Q8(h:Heap)(T:Addr):Prop:=∃o ts,h.get? T=some o/\o.data= .fields ts/\ts[3]? =some .none
section
variable {M:Model} {A:Around} {E:Value->Shared->Prop} {s:Shared}
end
def Q9(X:Cx)(H:Hp)(h:Heap)(tb:Value):Prop:=tb= .none\/∃T,tb= .ref T/\X.s₀.heap.objs.size<=T/\T≠X.env.locals/\(∀x c,X.env.cells.lookup x=some c->c≠T)/\(∀p∈X.pn,p.1≠T)/\H T=none/\Q8 h T
def Q3(X:Cx)(H:Hp)(s:Shared)(a:Addr):Prop:=∃C t tb d,H a=some (Q2 C a d)/\s.heap.get? a=some (Nw C t tb d)/\Q9 X H s.heap tb
section
variable {X:Cx} {pins:List (Addr×Obj)} {σ:St} {H H':Hp} {s s':Shared} {a:Addr}
end
def Rb(X:Cx)(σ:St)(H:Hp)(a:Addr):Prop:=∀s,Inv X [] σ H s->Q3 X H s a->X.xe (.ref a) s
theorem qz{α β:Type} [DecidableEq α] (f:α->β):∀(l:List β)(L:List α),l.Perm (L.map f)->∃M:List α,M.Perm L/\l=M.map f
 | [],L,h=>by
  have:=h.length_eq
  rw[aG] at this
  have:L= []:=BI.mp this.symm
  subst this;exact⟨[], .refl _,rfl⟩
 |x::r,L,h=>by
  obtain⟨e,he,rfl⟩:=b8.mp (h.mem_iff.mp b6);have p1:=List.perm_cons_erase he;have p2:(f e::r).Perm (f e::(L.erase e).map f):=h.trans (p1.map f);obtain⟨M,m1,rfl⟩:=qz f r (L.erase e) ((List.perm_cons _).mp p2);exact⟨e::M,(m1.cons e).trans p1.symm,rfl⟩
section
variable {X:Cx}
end
section
open PySem.SeqAt
open PySem.AutoSeq1 (wpAny_loadPart')
open PySem.MeetsSeq PySem.MeetsSeq2 PySem.MeetsSeq3
theorem AK{vs:List Value}{ns:List Int}(h:IntsAre vs ns){i:Nat}{a:Int}(e:ns[i]? =some a):∃t,vs[i]? =some (.int a t):=by
 induction h generalizing i with
 |nil=>simp at e
 |cons b t _ ih=>
  cases i with
  |zero=>simp at e;subst e;exact⟨t,rfl⟩
  |succ i=>simp at e;obtain⟨u,hu⟩:=ih e;exact⟨u,by simpa using hu⟩
theorem Ic(l b:Addr)(items dR:Array Value)(n n2:Nat)(dd yS:Option Addr)(sl vQ:Array (Option Value))(ns ms:List Int)(hi:IntsAre items.toList ns)(hj:IntsAre dR.toList ms)(k:Nat):
  ∀i:Nat,items.size-i=k->i<=items.size->i<=dR.size->Meets (Builtin.«list.__eq__.loop» ⟨[.ref l, .ref b,rawInt i,rawInt 0],[]⟩)
   (λA R s=>s.heap.get? l=some {cls:= .type "list",dict:=dd,data:= .seq items n,slots:=sl}/\s.heap.get? b=some {cls:= .type "list",dict:=yS,data:= .seq dR n2,slots:=vQ}/\
    R (.ok (.ret (.bool (HT.lexLt (ns.drop i) (ms.drop i))))) s):=by
 have z1:items.size=ns.length:=by rw[<-hi.length];simp
 have z2:dR.size=ms.length:=by rw[<-hj.length];simp
 induction k with
 |zero=>
  intro i hk h1 h2 prog w A R s h;obtain⟨hp,g,d,tk,os⟩:=s;obtain⟨hl,hb,h⟩:=h
  wp_walk using wpAny_loadPart' hl,wpAny_loadPart' hb
  have kZ:items[((i:Nat):Int).toNat]? =none:=by simp;omega
  rw[kZ];have e1:ns.drop i= []:=List.drop_of_length_le (by omega)
  rw[e1] at h
  have hv:HT.lexLt [] (ms.drop i)=decide (items.size<dR.size):=by
   by_cases c:i<ms.length
   ·rw[BH c,HT.tJ]
    exact(decide_eq_true (by omega)).symm
   ·rw[List.drop_of_length_le (by omega),HT.ve]
    exact(decide_eq_false (by omega)).symm
  rw[hv] at h
  wp_walk using wpAny_loadPart' hl,wpAny_loadPart' hb
  exact h
 |succ k ih=>
  intro i hk h1 h2 prog w A R s h;obtain⟨hp,g,d,tk,os⟩:=s;obtain⟨hl,hb,h⟩:=h
  wp_walk using wpAny_loadPart' hl,wpAny_loadPart' hb
  have cG:i<ns.length:=by omega
  obtain⟨t,ht⟩:=AK hi (bO cG);have kZ:items[((i:Nat):Int).toNat]? =some (.int ns[i] t):=by rw[Int.toNat_natCast,<-kL];exact ht
  have hc:((i:Int)+1)=((i+1:Nat):Int):=by push_cast;rfl
  rw[kZ]
  by_cases c:i<ms.length
  ·obtain⟨u,hu⟩:=AK hj (bO c)
   have tF:dR[((i:Nat):Int).toNat]? =some (.int ms[i] u):=by rw[Int.toNat_natCast,<-kL];exact hu
   rw[tF];rw[BH cG,BH c,HT.jG] at h;obtain⟨e,he,Nz⟩:=HT.E7 A.in1 ⟨hp,g,d,tk,os⟩ ns[i] t ms[i] u;refine wpAny_bind (he prog w _ _ ?_);cases e with
   |true=>
    rw[if_pos (Nz.mp rfl)] at h
    wp_walk
    rw[hc]
    exact⟨plainId_quiet plain_eq_loop _,codeAny_builtin entry_eq_loop (by
     rw[Around.under_plainId plain_eq_loop _];exact ih (i+1) (by omega) (by omega) (by omega) prog w A R _ ⟨hl,hb,h⟩)⟩
   |false=>
    rw[if_neg (λq=>absurd (Nz.mpr q) cK)] at h
    wp_walk using wpAny_loadPart' hl,wpAny_loadPart' hb
    rw[kZ,tF];have hri:=HT.FW A.in1 ⟨hp,g,d,tk,os⟩ ns[i] t ms[i] u prog w
    wp_walk using hri
    exact h
  ·have tF:dR[((i:Nat):Int).toNat]? =none:=by simp;omega
   rw[tF];rw[BH cG,List.drop_of_length_le (show ms.length<=i by omega),HT.tI] at h
   wp_walk using wpAny_loadPart' hl,wpAny_loadPart' hb
   show R (.ok (.ret (.bool (decide (items.size<dR.size))))) _;rw[decide_eq_false (by omega)]
   exact h
end
section
open PySem.SeqAt
open PySem.AutoSeq1 (wpAny_loadPart')
open PySem.MeetsSeq PySem.MeetsSeq2 PySem.MeetsSeq3
theorem wN(l b:Addr)(items dR:Array Value)(n n2:Nat)(dd yS:Option Addr)(sl vQ:Array (Option Value))(ns ms:List Int)(hi:IntsAre items.toList ns)(hj:IntsAre dR.toList ms):
  Meets (Builtin.«list.__lt__» ⟨[.ref l, .ref b],[]⟩)
   (λ_ R s=>s.heap.get? l=some {cls:= .type "list",dict:=dd,data:= .seq items n,slots:=sl}/\s.heap.get? b=some {cls:= .type "list",dict:=yS,data:= .seq dR n2,slots:=vQ}/\
    R (.ok (.ret (.bool (HT.lexLt ns ms)))) s):=by
 intro prog w A R s h;obtain⟨hp,g,d,tk,os⟩:=s;obtain⟨hl,hb,h⟩:=h;have f3:=AutoSeq1.sub_list_list
 wp_walk using wpAny_loadPart' hl,wpAny_loadPart' hb
 exact⟨plainId_quiet plain_eq_loop _,codeAny_builtin entry_eq_loop (by
  rw[Around.under_plainId plain_eq_loop _];exact Ic l b items dR n n2 dd yS sl vQ ns ms hi hj _ 0 rfl (cM _) (cM _) prog w A R _ ⟨hl,hb,h⟩)⟩
end
section
variable {prog:Program} {w:World} {A:Around} {E:Value->Shared->Prop} {s:Shared}
theorem A7{l b:Addr}{items dR:Array Value}{ns ms:List Int}{Q:Bool->Shared->Prop}(hl:s.heap.IsList l items)(hb:s.heap.IsList b dR)(hi:IntsAre items.toList ns)(hj:IntsAre dR.toList ms)(hu:A.units<cLine)
  (h:Q (HT.lexLt ns ms) s):wpAny (model prog w) A (oneLt' true (.ref l) (.ref b)) Q E s:=by
 rfl';obtain⟨⟨cls,dd,data,sl⟩,ho,hc,n,hd⟩:=id hl;obtain⟨⟨R0,yS,data2,vQ⟩,AF,HC,n2,hd2⟩:=id hb;ac_rfl;simp only at hc hd HC hd2;subst hc hd HC hd2;rw[oneLt'_eq];simp only[if_true];refine wpAny_bind (wpAny_cRoomFor hu ?_);refine wpAny_bind (wpAny_callSpecialIfBound?_slot ⟨_,ho,rfl⟩ PySem.F.slot_list_lt (call_meets PySem.F.slot_list_lt ⟨_,ho,rfl⟩ PySem.F.entry_list_lt (PySem.F.args_list_lt_2 _ _) (wN l b items dR n n2 dd yS sl vQ ns ms hi hj) ⟨ho,AF,?_⟩));exact wpAny_truthy_bool h
end
theorem AW:∀a:List Int,HT.lexLt a a=false
 | []=>rfl
 |x::xs=>by rw[HT.jG,if_pos rfl];exact AW xs
theorem zh:∀a b c:List Int,HT.lexLt a b=true->HT.lexLt b c=true->HT.lexLt a c=true
 | [],[],_,h,_=>by cases h
 | [],_::_,[],_,h=>by cases h
 | [],_::_,_::_,_,_=>rfl
 |_::_,[],_,h,_=>by cases h
 |_::_,_::_,[],_,h=>by cases h
 |x::xs,y::ys,z::zs,h1,h2=>by
  rw[HT.jG] at*
  by_cases e1:x=y
  ·rw[if_pos e1] at h1
   by_cases e2:y=z
   ·rw[if_pos e2] at h2
    rw[if_pos (e1.trans e2)];exact zh xs ys zs h1 h2
   ·rw[if_neg e2] at h2
    rw[if_neg (by rw[e1];exact e2),e1];exact h2
  ·rw[if_neg e1] at h1
   have l1:=of_decide_eq_true h1
   by_cases e2:y=z
   ·rw[if_neg (by rw[<-e2];exact e1),<-e2];exact h1
   ·rw[if_neg e2] at h2
    have l2:=of_decide_eq_true h2;rw[if_neg (by omega)]
    exact decide_eq_true (by omega)
theorem vf:∀a b:List Int,HT.lexLt a b=false->HT.lexLt b a=false->a=b
 | [],[],_,_=>rfl
 | [],_::_,h,_=>by cases h
 |_::_,[],_,h=>by cases h
 |x::xs,y::ys,h1,h2=>by
  rw[HT.jG] at*
  by_cases e:x=y
  ·rw[if_pos e] at h1
   rw[if_pos e.symm] at h2;rw[e,vf xs ys h1 h2]
  ·rw[if_neg e] at h1
   rw[if_neg (λz=>e z.symm)] at h2
   have:=of_decide_eq_false h1
   have:=of_decide_eq_false h2
   omega
theorem H0(a b c:List Int)(h:HT.lexLt a c=true):HT.lexLt a b=true\/HT.lexLt b c=true:=by
 cases e1:HT.lexLt a b with
 |true=>exact .inl rfl
 |false=>
  right
  cases e2:HT.lexLt b a with
  |true=>exact zh _ _ _ e2 h
  |false=>rw[<-vf a b e1 e2];exact h
def mr(r:List Nat):List Int:=r.map λ(n:Nat)=>(n:Int)
def kC(a b:List Nat):Prop:=HT.lexLt (mr b) (mr a)=false
def N4(H:Hp)(L:List (Addr×List Nat)):Prop:=∀p∈L,H p.1=some (.lst ((mr p.2).map V.int))
theorem JT{a b:List Nat}(h:(mr a).map V.int=(mr b).map V.int):a=b:=by
 unfold mr at h;rw[eF,eF] at h
 induction a generalizing b with
 |nil=>cases b with
  |nil=>rfl
  |cons y b=>simp at h
 |cons x a ih=>
  cases b with
  |nil=>simp at h
  |cons y b=>
   rw[iJ,iJ] at h
   injection h with h1 h2
   have KO:V.int (x:Int)=V.int (y:Int):=h1
   injection KO with KO
   rw[ih h2,show x=y by omega]
section
variable {X:Cx}
end
end L2
namespace PySem.SetTable
def my(xs:Array Nat):Prop:=∀i j (hj:j<xs.size),i<j->xs[i]! <xs[j]!
theorem Hs{xs:Array Nat}{i d:Nat}(h:i<xs.size):xs.getD i d=xs[i]! :=by
 simp[Array.getD,h]
theorem uZ{xs:Array Nat}(R:my xs)(j:Nat):∀(fuel lo hi:Nat),hi-lo<=fuel->lo<=hi->hi<=xs.size->(∀i,i<lo->xs[i]! <j)->(∀i,hi<=i->i<xs.size->j<=xs[i]!)->
  lo<=below.go xs j fuel lo hi/\below.go xs j fuel lo hi<=hi/\(∀i,i<below.go xs j fuel lo hi->xs[i]! <j)/\∀i,below.go xs j fuel lo hi<=i->i<xs.size->j<=xs[i]!
 |0,lo,hi,h1,h2,h3,a,b=>by
  have:lo=hi:=by omega
  subst this;rw[below.go];exact⟨bC _,bC _,a,b⟩
 |fuel+1,lo,hi,h1,h2,h3,a,b=>by
  rw[below.go]
  by_cases c:lo<hi
  ·rw[if_pos c]
   have hm:(lo+hi) / 2<xs.size:=by omega
   dsimp only;rw[Hs hm]
   by_cases d:xs[(lo+hi) / 2]! <j
   ·rw[if_pos d]
    have:=uZ R j fuel ((lo+hi) / 2+1) hi (by omega) (by omega) h3 (λi gJ=>by
     by_cases e:i=(lo+hi) / 2
     ·rw[e];exact d
     ·have:=R i ((lo+hi) / 2) hm (by omega);omega) b
    exact⟨by omega,this.2.1,this.2.2⟩
   ·rw[if_neg d]
    have:=uZ R j fuel lo ((lo+hi) / 2) (by omega) (by omega) (by omega) a (λi h4 h5=>by
     by_cases e:i=(lo+hi) / 2
     ·rw[e];omega
     ·have:=R ((lo+hi) / 2) i h5 (by omega);omega)
    exact⟨this.1,by omega,this.2.2⟩
  ·rw[if_neg c]
   have:lo=hi:=by omega
   subst this;exact⟨bC _,bC _,a,b⟩
theorem jB{xs:Array Nat}(R:my xs)(j:Nat):below xs j<=xs.size/\(∀i,i<below xs j->xs[i]! <j)/\∀i,below xs j<=i->i<xs.size->j<=xs[i]! :=by
 have:=uZ R j xs.size 0 xs.size (by omega) (cM _) (bC _) (λi h=>by omega) (λi h1 h2=>by omega)
 exact⟨this.2.1,this.2.2⟩
theorem below_at{xs:Array Nat}(R:my xs){i j:Nat}(h:xs[i]? =some j):below xs j=i:=by
 obtain⟨hi,e⟩:=BG.mp h;have e':xs[i]! =j:=by simp[hi,e]
 obtain⟨b1,b2,b3⟩:=jB R j;apply Nat.le_antisymm
 ·apply Classical.byContradiction
  intro c
  have:=b2 i (by omega)
  omega
 ·apply Classical.byContradiction
  intro c;have h1:=b3 (below xs j) (bC _) (by omega)
  have h2:=R (below xs j) i hi (by omega)
  omega
theorem pH{t:SetTable}(R:my t.place){i j:Nat}(h:t.place[i]? =some j):t.slot j= .live i:=by
 unfold slot;rw[below_at R h];simp[h]
theorem Bn{t:SetTable}(R:my t.place)(hd:t.dummies= #[]){j:Nat}(h:∀i:Nat,t.place[i]? ≠some j):t.slot j= .empty:=by
 unfold slot
 have h1:(t.place[below t.place j]? ==some j)=false:=by
  rw[beq_eq_false_iff_ne];exact h _
 dsimp only;rw[if_neg (by rw[h1];exact cK)]
 unfold has;rw[hd];rfl
def mf(mask:Nat)(p:Probe):Probe:=
 if p.more>0 then {p with j:=p.j+1,more:=p.more-1} else
 let (i,perturb):=leap mask p.i p.perturb
 {p with j:=i,more:=runEnd mask i-i,i,perturb}
def wZ(mask:Nat)(h:Int):Probe:={j:=bits h%(mask+1),more:=runEnd mask (bits h%(mask+1))-bits h%(mask+1),i:=bits h%(mask+1),perturb:=bits h,dummy:=none}
def pI(mask:Nat)(h:Int):Nat->Probe
 |0=>wZ mask h
 |k+1=>mf mask (pI mask h k)
def bS(mask:Nat)(h:Int)(k:Nat):Nat:=(pI mask h k).j
theorem GL(h:Int):bits h<2^64:=by
 unfold bits;have h1:0<=h%(2^64:Int):=Int.emod_nonneg _ (by decide)
 have h2:h%(2^64:Int)<2^64:=Int.emod_lt_of_pos _ (by decide)
 omega
def dN(mask:Nat)(i p:Nat):Nat->Nat×Nat
 |0=>(i,p)
 |r+1=>leap mask (dN mask i p r).1 (dN mask i p r).2
theorem jY(mask i p:Nat):∀r,(dN mask i p r).2=p / 32^r
 |0=>by simp[dN]
 |r+1=>by
  show(dN mask i p r).2 / 32=_;rw[jY mask i p r,Nat.div_div_eq_div_mul,Nat.pow_succ]
def Lh(mask:Nat)(i:Nat):Nat:=(i*5+1)%(mask+1)
def jE(mask:Nat)(i:Nat):Nat->Nat
 |0=>i
 |r+1=>Lh mask (jE mask i r)
theorem kA(mask i:Nat)(a:Nat):∀b,jE mask i (a+b)=jE mask (jE mask i a) b
 |0=>rfl
 |b+1=>by
  show Lh mask (jE mask i (a+b))=_;rw[kA mask i a b];rfl
theorem rZ{mask i p r0:Nat}(h:(dN mask i p r0).2=0):∀r,dN mask i p (r0+r)=(jE mask (dN mask i p r0).1 r,0)
 |0=>by rw[Nat.add_zero,jE];exact Prod.ext rfl h
 |r+1=>by
  show leap mask (dN mask i p (r0+r)).1 (dN mask i p (r0+r)).2=_;rw[rZ h r];unfold leap;simp[jE,Lh]
def tq(mask:Nat):Prop:=mask=7\/mask=31\/mask=127\/mask=511
def Qi(mask:Nat):Nat->Nat->List Nat
 |_,0=> []
 |i,n+1=>i::Qi mask (Lh mask i) n
theorem A2{mask s:Nat}:∀{i n:Nat},s∈Qi mask i n->∃r,r<n/\jE mask i r=s
 |i,0,h=>by cases h
 |i,n+1,h=>by
  rcases cm.mp h with rfl|h
  ·exact⟨0,by omega,rfl⟩
  ·obtain⟨r,hr,e⟩:=A2 h
   refine⟨r+1,by omega,?_⟩
   have:=kA mask i 1 r
   rw[show 1+r=r+1 by omega] at this
   rw[this];exact e
theorem Qj{mask:Nat}(h:tq mask):(∀s,s<=mask->∃r,r<=mask/\jE mask 0 r=s)/\jE mask 0 (mask+1)=0:=by
 have key:∀m,(List.range (m+1)).all (λs=>(Qi m 0 (m+1)).contains s)=true->∀s,s<=m->∃r,r<=m/\jE m 0 r=s:=λm hm s hs=>by
  have:=kO.mp hm s (cT.mpr (by omega))
  obtain⟨r,hr,e⟩:=A2 (List.contains_iff_mem.mp this);exact⟨r,by omega,e⟩
 rcases h with rfl|rfl|rfl|rfl
 ·exact⟨key 7 (by decide+kernel),by decide+kernel⟩
 ·exact⟨key 31 (by decide+kernel),by decide+kernel⟩
 ·exact⟨key 127 (by decide+kernel),by decide+kernel⟩
 ·exact⟨key 511 (by decide+kernel),by decide+kernel⟩
theorem cover{mask:Nat}(h:tq mask){i s:Nat}(hi:i<=mask)(hs:s<=mask):∃r,r<=mask/\jE mask i r=s:=by
 obtain⟨o,per⟩:=Qj h;obtain⟨a,ha,rfl⟩:=o i hi;obtain⟨b,hb,rfl⟩:=o s hs
 by_cases c:a<=b
 ·refine⟨b-a,by omega,?_⟩
  rw[<-kA,show a+(b-a)=b by omega]
 ·refine⟨mask+1-a+b,by omega,?_⟩
  rw[<-kA,show a+(mask+1-a+b)=mask+1+b by omega,kA,per]
def cu(mask:Nat)(p:Probe):Nat->Probe
 |0=>p
 |k+1=>mf mask (cu mask p k)
theorem kc(mask:Nat)(p:Probe)(a:Nat):∀b,cu mask p (a+b)=cu mask (cu mask p a) b
 |0=>rfl
 |b+1=>by
  show mf mask (cu mask p (a+b))=_;rw[kc mask p a b];rfl
theorem lG(mask:Nat)(h:Int):∀k,pI mask h k=cu mask (wZ mask h) k
 |0=>rfl
 |k+1=>by
  show mf mask _=mf mask _;rw[lG mask h k]
theorem rz(mask:Nat)(p:Probe):∀c,c<=p.more->cu mask p c={p with j:=p.j+c,more:=p.more-c}
 |0,_=>rfl
 |c+1,hc=>by
  show mf mask (cu mask p c)=_;rw[rz mask p c (by omega)]
  unfold mf;rw[if_pos (by show p.more-c>0;omega)]
  show({p with j:=p.j+c+1,more:=p.more-c-1}:Probe)={p with j:=p.j+(c+1),more:=p.more-(c+1)}
  rw[show p.more-c-1=p.more-(c+1) by omega,show p.j+c+1=p.j+(c+1) by omega]
def Mj(mask:Nat)(p:Probe)(ip:Nat×Nat):Probe:={p with j:=ip.1,more:=runEnd mask ip.1-ip.1,i:=ip.1,perturb:=ip.2}
theorem more_le(mask i:Nat):runEnd mask i-i<=9:=by
 unfold runEnd
 split<;>omega
theorem oO(mask:Nat)(p:Probe):cu mask p (p.more+1)=Mj mask p (leap mask p.i p.perturb):=by
 show mf mask (cu mask p p.more)=_;rw[rz mask p p.more (bC _)];unfold mf;rw[if_neg (by show ¬p.more-p.more>0;omega)]
 rfl
theorem uk(mask:Nat)(p:Probe):∀r,∃k,k<=p.more+1+10*r/\cu mask p k=Mj mask p (dN mask p.i p.perturb (r+1))
 |0=>⟨p.more+1,by omega,oO mask p⟩
 |r+1=>by
  obtain⟨k,hk,e⟩:=uk mask p r;have h9:=more_le mask (dN mask p.i p.perturb (r+1)).1;refine⟨k+((runEnd mask (dN mask p.i p.perturb (r+1)).1-(dN mask p.i p.perturb (r+1)).1)+1),by omega,?_⟩
  rw[kc,e];exact oO mask (Mj mask p (dN mask p.i p.perturb (r+1)))
theorem Bj(mask i p:Nat)(r:Nat):(dN mask i p (r+1)).1<=mask:=by
 show(((dN mask i p r).1*5+1+(dN mask i p r).2 / 32)%(mask+1))<=mask
 have:=tm ((dN mask i p r).1*5+1+(dN mask i p r).2 / 32) (show 0<mask+1 by omega)
 omega
theorem EC{mask i:Nat}(h:i<=mask):i+(runEnd mask i-i)<=mask:=by
 unfold runEnd
 split<;>omega
structure rm (mask:Nat) (p:Probe):Prop where
 le:p.j+p.more<=mask
 more:p.more<=9
 per:p.perturb<2^64
 dum:p.dummy=none
theorem rm.mf{mask:Nat}{p:Probe}(o:rm mask p):rm mask (mf mask p):=by
 unfold SetTable.mf
 split
 ·next h=>exact⟨by show p.j+1+(p.more-1)<=mask;have:=o.le;omega,by show p.more-1<=9;have:=o.more;omega,o.per,o.dum⟩
 ·refine⟨EC (by have:=tm (p.i*5+1+p.perturb / 32) (show 0<mask+1 by omega);show(p.i*5+1+p.perturb / 32)%(mask+1)<=mask;omega),more_le _ _,?_,o.dum⟩
  show p.perturb / 32<2^64
  have:=o.per
  omega
theorem rm.start(mask:Nat)(h:Int):rm mask (wZ mask h):=⟨EC (mask:=mask) (i:=bits h%(mask+1)) (by have:=tm (bits h) (show 0<mask+1 by omega);omega),more_le _ _,GL h,rfl⟩
theorem rm.cu{mask:Nat}{p:Probe}(o:rm mask p):∀k,rm mask (cu mask p k)
 |0=>o
 |k+1=>(o.cu k).mf
theorem meets{mask:Nat}(f:tq mask){p:Probe}(o:rm mask p){s:Nat}(hs:s<=mask):∃k,k<10*turns mask/\(cu mask p k).j=s:=by
 have z:(dN mask p.i p.perturb 13).2=0:=by
  rw[jY];exact Nat.div_eq_of_lt (gK o.per (by decide))
 obtain⟨r,hr,e⟩:=cover f (Bj mask p.i p.perturb 12) hs;obtain⟨k,hk,e2⟩:=uk mask p (12+r);refine⟨k,?_,?_⟩
 ·have:=o.more
  unfold turns;omega
 ·rw[e2]
  show(dN mask p.i p.perturb (12+r+1)).1=s;rw[show 12+r+1=13+r by omega,rZ z]
  exact e
theorem yd{t:SetTable}(R:my t.place)(hd:t.dummies= #[])(hashAt:Nat->Int)(h:Int):∀(K fuel:Nat)(p:Probe),p.dummy=none->K<fuel->(∀i:Nat,t.place[i]? ≠some (cu t.mask p K).j)->
  ∃k0,k0<=K/\(∀k',k'<k0->∃i:Nat,t.place[i]? =some (cu t.mask p k').j/\hashAt i≠h)/\
   (((∀i:Nat,t.place[i]? ≠some (cu t.mask p k0).j)/\probe.go t hashAt h fuel p=some (.empty (cu t.mask p k0).j none))\/
    (∃i:Nat,t.place[i]? =some (cu t.mask p k0).j/\hashAt i=h/\probe.go t hashAt h fuel p=some (.candidate (cu t.mask p k0).j i (cu t.mask p (k0+1)))))
 |K,0,p,_,hK,_=>by omega
 |K,fuel+1,p,dn,hK,he=>by
  by_cases c:∃i:Nat,t.place[i]? =some p.j
  ·obtain⟨i,hi⟩:=c
   have sl:=pH R hi
   by_cases c2:hashAt i=h
   ·refine⟨0,cM _,λk' h'=>by omega, .inr ⟨i,hi,c2,?_⟩⟩
    rw[probe.go,sl];dsimp only;rw[if_pos (by simpa using c2)]
    rfl
   ·cases K with
    |zero=>exact absurd hi (he i)
    |succ K=>
     have dn':(mf t.mask p).dummy=none:=by
      unfold mf
      split<;>exact dn
     have e1:∀k,cu t.mask (mf t.mask p) k=cu t.mask p (k+1):=λk=>by
      have:=kc t.mask p 1 k
      rw[show 1+k=k+1 by omega] at this
      exact this.symm
     obtain⟨k0,hk0,a,b⟩:=yd R hd hashAt h K fuel (mf t.mask p) dn' (by omega) (by rw[e1];exact he)
     have eg:probe.go t hashAt h (fuel+1) p=probe.go t hashAt h fuel (mf t.mask p):=by
      rw[probe.go,sl];dsimp only;rw[if_neg (by simpa using c2)]
      rfl
     refine⟨k0+1,by omega,λk' h'=>?_,?_⟩
     ·cases k' with
      |zero=>exact⟨i,hi,c2⟩
      |succ k'=>
       have:=a k' (by omega)
       rw[e1] at this;exact this
     ·rw[e1,e1] at b
      rw[eg];exact b
  ·have c:∀i:Nat,t.place[i]? ≠some p.j:=λi hi=>c ⟨i,hi⟩
   refine⟨0,cM _,λk' h'=>by omega, .inl ⟨c,?_⟩⟩
   rw[probe.go,Bn R hd c];dsimp only;rw[dn];rfl
structure TOk (t:SetTable) (hs:List Int):Prop where
 few:tq t.mask
 dum:t.dummies= #[]
 rise:my t.place
 size:t.place.size=hs.length
 le:∀(i j:Nat),t.place[i]? =some j->j<=t.mask
 room:t.place.size<=t.mask
 path:∀(i:Nat)(h:Int),hs[i]? =some h->∃k,t.place[i]? =some (bS t.mask h k)/\∀k',k'<k->∃i':Nat,t.place[i']? =some (bS t.mask h k')
theorem zG(mask:Nat)(h:Int)(k:Nat):bS mask h k<=mask:=by
 unfold bS;rw[lG]
 have:=((rm.start mask h).cu k).le
 omega
theorem TOk.empty{t:SetTable}{hs:List Int}(T:TOk t hs):∃s,s<=t.mask/\∀i:Nat,t.place[i]? ≠some s:=by
 apply Classical.byContradiction;intro c
 have all:∀s∈List.range (t.mask+1),s∈t.place.toList:=λs hs=>by
  apply Classical.byContradiction;intro n;refine c ⟨s,by have:=cT.mp hs;omega,λi hi=>n ?_⟩
  rw[<-kL] at hi;exact e9 hi
 have:=Wb.aQ List.nodup_range all
 rw[iI,nM] at this
 have:=T.room
 omega
theorem TOk.probe{t:SetTable}{hs:List Int}(T:TOk t hs)(hashAt:Nat->Int)(h:Int)(k:Nat):
  ∃k0,k<=k0/\(∀k',k<=k'->k'<k0->∃i:Nat,t.place[i]? =some (bS t.mask h k')/\hashAt i≠h)/\
   (((∀i:Nat,t.place[i]? ≠some (bS t.mask h k0))/\t.probe hashAt h (pI t.mask h k)=some (.empty (bS t.mask h k0) none))\/
    (∃i:Nat,t.place[i]? =some (bS t.mask h k0)/\hashAt i=h/\t.probe hashAt h (pI t.mask h k)=some (.candidate (bS t.mask h k0) i (pI t.mask h (k0+1))))):=by
 obtain⟨s,Fo,he⟩:=T.empty;have o:=(rm.start t.mask h).cu k;rw[<-lG] at o;obtain⟨K,hK,eK⟩:=meets T.few o Fo;have e1:∀c,cu t.mask (pI t.mask h k) c=pI t.mask h (k+c):=λc=>by rw[lG,lG,<-kc]
 obtain⟨k0,h0,a,b⟩:=yd T.rise T.dum hashAt h K (10*turns t.mask) (pI t.mask h k) o.dum hK (by rw[eK];exact he)
 refine⟨k+k0,by omega,λk' h1 h2=>?_,?_⟩
 ·have:=a (k'-k) (by omega)
  rw[e1,show k+(k'-k)=k' by omega] at this
  exact this
 ·rw[e1,e1] at b
  exact b
theorem jV{α:Type}{xs:Array α}{p:Nat}(x:α)(hp:p<=xs.size)(i:Nat):(insertAt xs p x)[i]? =if i<p then xs[i]? else if i=p then some x else xs[i-1]? :=by
 rw[<-kL,SetTable.toList_insertAt];have lt:(xs.toList.take p).length=p:=by rw[eD,nM];omega
 by_cases c:i<p
 ·rw[if_pos c,gk (by omega),qT c,kL]
 ·rw[if_neg c]
  by_cases d:i=p
  ·subst d
   rw[if_pos rfl,hU (by omega),lt,kQ];rfl
  ·rw[if_neg d,hU (by omega),lt]
   obtain⟨m,hm⟩:∃m,i-p=m+1:=⟨i-p-1,by omega⟩
   rw[hm,we,BL,kL]
   congr 1;omega
theorem gy{α:Type}(xs:Array α)(p:Nat)(x:α):(insertAt xs p x).size=xs.size+1:=by
 rw[<-nM,(SetTable.insertAt_perm xs p x).length_eq];simp
theorem iV{xs:Array Nat}{i j:Nat}(h:xs[i]? =some j):xs[i]! =j:=by
 obtain⟨hi,e⟩:=BG.mp h;simp[hi,e]
theorem FX{xs:Array Nat}(R:my xs){j:Nat}(h:∀i:Nat,xs[i]? ≠some j):my (insertAt xs (below xs j) j):=by
 obtain⟨b1,b2,b3⟩:=jB R j;have g:=jV (xs:=xs) j b1;intro a b hb Fe;rw[gy] at hb
 have val:∀i,i<xs.size+1->∃v,(insertAt xs (below xs j) j)[i]? =some v/\((i<below xs j/\xs[i]? =some v)\/(i=below xs j/\v=j)\/(below xs j<i/\xs[i-1]? =some v)):=λi hi=>by
  rw[g i]
  by_cases c:i<below xs j
  ·rw[if_pos c,yC (by omega)]
   exact⟨_,rfl, .inl ⟨c,rfl⟩⟩
  ·rw[if_neg c]
   by_cases d:i=below xs j
   ·rw[if_pos d];exact⟨j,rfl, .inr (.inl ⟨d,rfl⟩)⟩
   ·rw[if_neg d,yC (by omega)]
    exact⟨_,rfl, .inr (.inr ⟨by omega,rfl⟩)⟩
 obtain⟨va,ha,ca⟩:=val a (by omega)
 obtain⟨vb,y2,cb⟩:=val b (by omega)
 rw[iV ha,iV y2];have lo:∀i v,i<below xs j->xs[i]? =some v->v<j:=λi v h1 h2=>by have:=b2 i h1;rw[iV h2] at this;exact this
 have hi:∀i v,below xs j<=i->xs[i]? =some v->j<v:=λi v h1 h2=>by
  have:=b3 i h1 (BG.mp h2).1
  rw[iV h2] at this
  have:v≠j:=λz=>h i (by rw[h2,z])
  omega
 have mid:∀i k v u,xs[i]? =some v->xs[k]? =some u->i<k->v<u:=λi k v u h1 h2 h3=>by
  have:=R i k (BG.mp h2).1 h3
  rw[iV h1,iV h2] at this;exact this
 rcases ca with ⟨a1,a2⟩ | ⟨a1,rfl⟩ | ⟨a1,a2⟩
 ·rcases cb with ⟨c1,c2⟩ | ⟨c1,rfl⟩ | ⟨c1,c2⟩
  ·exact mid _ _ _ _ a2 c2 Fe
  ·exact lo _ _ a1 a2
  ·have:=lo _ _ a1 a2;have:=hi (b-1) _ (by omega) c2;omega
 ·rcases cb with ⟨c1,c2⟩ | ⟨c1,rfl⟩ | ⟨c1,c2⟩
  ·omega
  ·omega
  ·exact hi (b-1) _ (by omega) c2
 ·rcases cb with ⟨c1,c2⟩ | ⟨c1,rfl⟩ | ⟨c1,c2⟩
  ·omega
  ·omega
  ·exact mid _ _ _ _ a2 c2 (by omega)
theorem Jg{xs:Array Nat}(R:my xs){j s:Nat}:(∃i:Nat,(insertAt xs (below xs j) j)[i]? =some s)↔s=j\/∃i:Nat,xs[i]? =some s:=by
 obtain⟨b1,_,_⟩:=jB R j;have g:=jV (xs:=xs) j b1
 constructor
 ·rintro⟨i,h⟩
  rw[g i] at h
  split at h
  ·exact .inr ⟨i,h⟩
  ·split at h
   ·exact .inl (Option.some.inj h).symm
   ·exact .inr ⟨_,h⟩
 ·rintro(rfl| ⟨i,h⟩)
  ·exact⟨below xs s,by rw[g,if_neg (by omega),if_pos rfl]⟩
  ·by_cases c:i<below xs j
   ·exact⟨i,by rw[g,if_pos c];exact h⟩
   ·exact⟨i+1,by rw[g,if_neg (by omega),if_neg (by omega)];exact h⟩
theorem TOk.put{t:SetTable}{hs:List Int}(T:TOk t hs){h:Int}{k:Nat}(he:∀i:Nat,t.place[i]? ≠some (bS t.mask h k))(hp:∀k',k'<k->∃i:Nat,t.place[i]? =some (bS t.mask h k'))(room:t.place.size+1<=t.mask):
  (t.put (bS t.mask h k)).2=below t.place (bS t.mask h k)/\below t.place (bS t.mask h k)<=hs.length/\
  TOk (t.put (bS t.mask h k)).1 (hs.take (below t.place (bS t.mask h k))++h::hs.drop (below t.place (bS t.mask h k))):=by
 obtain⟨b1,b2,b3⟩:=jB T.rise (bS t.mask h k);have g:=jV (xs:=t.place) (bS t.mask h k) b1;have sz:=T.size;have pm:=λs=>Jg (s:=s) (j:=bS t.mask h k) T.rise;refine⟨rfl,by omega,T.few,?_,FX T.rise he,?_,?_,?_,?_⟩
 ·show(if has t.dummies _=true then _ else t.dummies)= #[]
  rw[T.dum];rfl
 ·show(insertAt t.place _ _).size=_
  rw[gy,cx,eD,cw,kN];omega
 ·intro i j hj
  have hj:(insertAt t.place (below t.place (bS t.mask h k)) (bS t.mask h k))[i]? =some j:=hj
  rcases(pm j).mp ⟨i,hj⟩ with rfl| ⟨i',h'⟩
  ·exact zG _ _ _
  ·exact T.le _ _ h'
 ·show(insertAt t.place _ _).size<=_
  rw[gy];exact room
 ·intro i h' hi
  show ∃k1,(insertAt t.place (below t.place (bS t.mask h k)) (bS t.mask h k))[i]? =some (bS t.mask h' k1)/\∀k',k'<k1->∃i':Nat,(insertAt t.place (below t.place (bS t.mask h k)) (bS t.mask h k))[i']? =some (bS t.mask h' k');have lt:(hs.take (below t.place (bS t.mask h k))).length=below t.place (bS t.mask h k):=by rw[eD];omega
  by_cases c:i<below t.place (bS t.mask h k)
  ·rw[gk (by omega),qT c] at hi
   obtain⟨k1,e1,e2⟩:=T.path i h' hi;exact⟨k1,by rw[g,if_pos c];exact e1,λk' gQ=>(pm _).mpr (.inr (e2 k' gQ))⟩
  ·rw[hU (by omega),lt] at hi
   by_cases d:i=below t.place (bS t.mask h k)
   ·rw[d,kQ] at hi
    cases(Option.some.inj hi);exact⟨k,by rw[d,g,if_neg (by omega),if_pos rfl],λk' gQ=>(pm _).mpr (.inr (hp k' gQ))⟩
   ·obtain⟨m,hm⟩:∃m,i-below t.place (bS t.mask h k)=m+1:=⟨i-below t.place (bS t.mask h k)-1,by omega⟩
    rw[hm,we,BL] at hi;obtain⟨k1,e1,e2⟩:=T.path _ h' hi;refine⟨k1,?_,λk' gQ=>(pm _).mpr (.inr (e2 k' gQ))⟩;rw[g,if_neg c,if_neg d,show i-1=below t.place (bS t.mask h k)+m by omega]
    exact e1
theorem sO(mask i p:Nat):∀r,dN mask i p (r+1)=dN mask (leap mask i p).1 (leap mask i p).2 r
 |0=>rfl
 |r+1=>by
  show leap mask (dN mask i p (r+1)).1 (dN mask i p (r+1)).2=_;rw[sO mask i p r];rfl
def Own(o:Array (Option Nat))(s:Nat):Prop:=(o.getD s (some 0)).isNone=false
theorem uW{mask:Nat}(owner:Array (Option Nat)):∀(fuel:Nat)(p:Probe),p.j=p.i->p.more=runEnd mask p.i-p.i->p.i<=runEnd mask p.i->(∃r,r<fuel/\¬Own owner (dN mask p.i p.perturb r).1)->
  ∃k0,layClean.free mask owner fuel p.i p.perturb=some (cu mask p k0).j/\¬Own owner (cu mask p k0).j/\∀k',k'<k0->Own owner (cu mask p k').j
 |0,p,_,_,_,⟨r,hr,_⟩=>by omega
 |fuel+1,p,e1,e2,e3,⟨r,hr,he⟩=>by
  have run:∀c,c<=p.more->(cu mask p c).j=p.i+c:=λc hc=>by rw[rz mask p c hc];show p.j+c=_;rw[e1]
  cases hf:(List.range (runEnd mask p.i+1-p.i)).find? λk=>(owner.getD (p.i+k) (some 0)).isNone with
  |some k=>
   obtain⟨h1,as,bs,h2,h3⟩:=List.find?_eq_some_iff_append.mp hf;have hk:k<runEnd mask p.i+1-p.i:=cT.mp (by rw[h2];simp)
   have las:as.length=k:=by
    have hl:as.length<(List.range (runEnd mask p.i+1-p.i)).length:=by rw[h2];simp
    have:=oM (n:=runEnd mask p.i+1-p.i) (i:=as.length) (by simpa using hl)
    rw[h2,hU (bC _),kQ] at this;exact(Option.some.inj this).symm
   refine⟨k,?_,?_,λk' gQ=>?_⟩
   ·rw[layClean.free,hf,run k (by omega)]
   ·rw[run k (by omega)]
    unfold Own;rw[h1];exact Bool.noConfusion
   ·rw[run k' (by omega)]
    have hm:k'∈as:=by
     have:=oM (n:=runEnd mask p.i+1-p.i) (i:=k') (by omega)
     rw[h2,gk (by omega)] at this
     exact e9 this
    have:=h3 k' hm
    unfold Own;exact Bool.not_eq_true' _▸this
  |none=>
   have all:=List.find?_eq_none.mp hf
   have own:∀c,c<=p.more->Own owner (p.i+c):=λc hc=>by
    have:=all c (cT.mpr (by omega))
    unfold Own;exact yF.mpr this
   cases r with
   |zero=>exact absurd (own 0 (cM _)) he
   |succ r=>
    have lp:=oO mask p
    obtain⟨k0,a,b,c⟩:=uW owner fuel (Mj mask p (leap mask p.i p.perturb)) rfl rfl (by
     show(leap mask p.i p.perturb).1<=runEnd mask (leap mask p.i p.perturb).1;unfold runEnd;split<;>omega) ⟨r,by omega,by rw[sO] at he;exact he⟩
    rw[<-lp] at a b c;have e4:∀k,cu mask (cu mask p (p.more+1)) k=cu mask p (p.more+1+k):=λk=>(kc mask p (p.more+1) k).symm;refine⟨p.more+1+k0,?_,?_,λk' gQ=>?_⟩
    ·rw[layClean.free,hf,<-e4,<-a,lp];rfl
    ·rw[<-e4];exact b
    ·by_cases d:k'<=p.more
     ·rw[run k' d];exact own k' d
     ·have:=c (k'-(p.more+1)) (by omega)
      rw[e4,show p.more+1+(k'-(p.more+1))=k' by omega] at this
      exact this
structure Laid (mask:Nat) (hs:List Int) (owner:Array (Option Nat)) (ss:List Nat):Prop where
 size:owner.size=mask+1
 len:ss.length=hs.length
 nd:ss.Nodup
 le:∀s∈ss,s<=mask
 get:∀s,s<=mask->∀k,owner.getD s (some 0)=some k↔ss[k]? =some s
 path:∀(k:Nat)(h:Int),hs[k]? =some h->∃c,ss[k]? =some (bS mask h c)/\∀c',c'<c->bS mask h c'∈ss
theorem Laid.own{mask:Nat}{hs:List Int}{owner:Array (Option Nat)}{ss:List Nat}(L:Laid mask hs owner ss){s:Nat}(h:s<=mask):Own owner s↔s∈ss:=by
 unfold Own
 constructor
 ·intro e
  cases o:owner.getD s (some 0) with
  |none=>rw[o] at e;cases e
  |some k=>exact e9 ((L.get s h k).mp o)
 ·intro e
  obtain⟨k,hk⟩:=sZ e;rw[(L.get s h k).mpr hk];rfl
theorem Cy{mask:Nat}(f:tq mask){hs:List Int}{owner:Array (Option Nat)}{ss:List Nat}(L:Laid mask hs owner ss)(room:hs.length<=mask)(h:Int):
  ∃j,layClean.free mask owner (turns mask) (bits h%(mask+1)) (bits h)=some j/\Laid mask (hs++ [h]) (owner.setIfInBounds j (some hs.length)) (ss++ [j]):=by
 have o:=rm.start mask h
 obtain⟨s,mj,iN⟩:∃s,s<=mask/\s∉ss:=by
  apply Classical.byContradiction;intro c
  have all:∀s∈List.range (mask+1),s∈ss:=λs hs=>by
   apply Classical.byContradiction;intro n;exact c ⟨s,by have:=cT.mp hs;omega,n⟩
  have:=Wb.aQ List.nodup_range all
  rw[iI,L.len] at this;omega
 have z:(dN mask (wZ mask h).i (wZ mask h).perturb 13).2=0:=by
  rw[jY];exact Nat.div_eq_of_lt (gK o.per (by decide))
 obtain⟨r,hr,e⟩:=cover f (Bj mask (wZ mask h).i (wZ mask h).perturb 12) mj
 have hi:(wZ mask h).i<=mask:=by
  have:=tm (bits h) (show 0<mask+1 by omega)
  show bits h%(mask+1)<=mask;omega
 obtain⟨k0,a,b,c⟩:=uW owner (turns mask) (wZ mask h) rfl rfl (by unfold runEnd;split<;>omega) ⟨13+r,by unfold turns;omega,by
  rw[rZ z];show ¬Own owner (jE mask _ r);rw[e,L.own mj];exact iN⟩
 have sl:∀k,(cu mask (wZ mask h) k).j=bS mask h k:=λk=>by unfold bS;rw[lG]
 rw[sl] at a b;have hle:=zG mask h k0;rw[L.own hle] at b;refine⟨bS mask h k0,a,?_,?_,?_,?_,?_,?_⟩
 ·rw[Array.size_setIfInBounds];exact L.size
 ·rw[cx,cx,L.len];rfl
 ·exact gF.mpr ⟨L.nd,by simp,λx hx y hy z=>b (by rw[<-jw.mp hy,<-z];exact hx)⟩
 ·intro x hx
  rcases fK.mp hx with hx|hx
  ·exact L.le x hx
  ·rw[jw.mp hx];exact hle
 ·intro x hx k
  have e1:(owner.setIfInBounds (bS mask h k0) (some hs.length)).getD x (some 0)=if bS mask h k0=x then some hs.length else owner.getD x (some 0):=by
   rw[sY,sY,Array.getElem?_setIfInBounds]
   by_cases d:bS mask h k0=x
   ·rw[if_pos d,if_pos d,if_pos (by rw[L.size];omega)];rfl
   ·rw[if_neg d,if_neg d]
  rw[e1]
  by_cases d:bS mask h k0=x
  ·rw[if_pos d]
   constructor
   ·intro e
    cases(Option.some.inj e);rw[<-L.len,hU (bC _),kQ,<-d];rfl
   ·intro e
    by_cases q:k<ss.length
    ·rw[gk q] at e
     exact absurd (by rw[d];exact e9 e) b
    ·have:k<(ss++ [bS mask h k0]).length:=(dE.mp e).1
     rw[cx] at this
     have:k<ss.length+1:=this
     rw[show k=ss.length by omega,L.len]
  ·rw[if_neg d,L.get x hx k]
   constructor
   ·intro e
    rw[gk (dE.mp e).1];exact e
   ·intro e
    by_cases q:k<ss.length
    ·rw[gk q] at e;exact e
    ·have:k<(ss++ [bS mask h k0]).length:=(dE.mp e).1
     rw[cx] at this
     have:k<ss.length+1:=this
     rw[show k=ss.length by omega,hU (bC _),kQ] at e
     exact absurd (Option.some.inj e) d
 ·intro k h' hk
  by_cases q:k<hs.length
  ·rw[gk q] at hk
   obtain⟨c1,e1,e2⟩:=L.path k h' hk;exact⟨c1,by rw[gk (by rw[L.len];exact q)];exact e1,λc' n9=>kM _ (e2 c' n9)⟩
  ·have:k<(hs++ [h]).length:=(dE.mp hk).1
   rw[cx] at this
   have:k<hs.length+1:=this
   have ek:k=hs.length:=by omega
   subst ek;rw[hU (bC _),kQ] at hk;cases(Option.some.inj hk);refine⟨k0,by rw[<-L.len,hU (bC _),kQ];rfl,λc' n9=>kM _ ?_⟩
   have:=c c' n9
   rw[sl] at this;exact(L.own (zG _ _ _)).mp this
theorem Cz(mask:Nat):Laid mask [] (Array.replicate (mask+1) none) [] where
 size:=by simp
 len:=rfl
 nd:=ic
 le:=λs h=>by cases h
 get:=λs hs k=>by
  rw[sY,Array.getElem?_replicate,if_pos (by omega)]
  simp
 path:=λk h e=>by cases e
def xN(mask:Nat)(acc:Option (Array (Option Nat)×Nat))(h:Int):Option (Array (Option Nat)×Nat):=do
 let (owner,k) <-acc
 let j <-layClean.free mask owner (turns mask) (bits h%(mask+1)) (bits h)
 pure (owner.setIfInBounds j (some k),k+1)
theorem xO{mask:Nat}(f:tq mask):∀(rest done:List Int)(owner:Array (Option Nat))(ss:List Nat),Laid mask done owner ss->done.length+rest.length<=mask+1->
  ∃qu QB,rest.foldl (xN mask) (some (owner,done.length))=some (qu,done.length+rest.length)/\Laid mask (done++rest) qu QB
 | [],done,owner,ss,L,_=>⟨owner,ss,rfl,by rw[kP];exact L⟩
 |h::rest,done,owner,ss,L,hl=>by
  rw[cw] at hl;obtain⟨j,e,L'⟩:=Cy f L (by omega) h
  have ef:xN mask (some (owner,done.length)) h=some (owner.setIfInBounds j (some done.length),done.length+1):=by
   unfold xN;simp[e]
  obtain⟨qu,QB,e2,L2⟩:=xO f rest (done++ [h]) _ _ L' (by rw[cx];show done.length+1+rest.length<=_;omega)
  refine⟨qu,QB,?_,by rw[td] at L2;exact L2⟩
  rw[List.foldl_cons,ef];rw[cx] at e2;have e2:rest.foldl (xN mask) (some (owner.setIfInBounds j (some done.length),done.length+1))=some (qu,done.length+1+rest.length):=e2;rw[e2,cw]
  congr 2;omega
theorem zg{mask:Nat}(f:tq mask)(hs:List Int)(room:hs.length<=mask+1):∃owner ss,layClean mask hs.toArray=some owner/\Laid mask hs owner ss:=by
 rfl';obtain⟨owner,ss,e,L⟩:=xO f hs [] _ _ (Cz mask) (by simpa using room)
 ac_rfl;refine⟨owner,ss,?_,by simpa using L⟩
 have:layClean mask hs.toArray=(hs.foldl (xN mask) (some (Array.replicate (mask+1) none,0))).map (·.1):=by
  unfold layClean;rw[List.foldl_toArray];rfl
 have e:hs.foldl (xN mask) (some (Array.replicate (mask+1) none,0))=some (owner,[].length+hs.length):=e;rw[this,e];rfl
def dH(mask:Nat)(owner:Array (Option Nat)):List (Nat×Nat):=(List.range (mask+1)).filterMap λj=>(owner.getD j none).map (j,·)
theorem Fy{mask:Nat}{hs:List Int}{owner:Array (Option Nat)}{ss:List Nat}(L:Laid mask hs owner ss){j k:Nat}:(j,k)∈dH mask owner↔ss[k]? =some j:=by
 unfold dH;rw[zq93]
 have dflt:∀s,s<=mask->owner.getD s none=owner.getD s (some 0):=λs hs=>by
  rw[sY,sY,yC (by rw[L.size];omega)];rfl
 constructor
 ·rintro⟨s,Fo,e⟩
  have Fo:=cT.mp Fo;rw[dflt s (by omega)] at e
  cases o:owner.getD s (some 0) with
  |none=>rw[o] at e;cases e
  |some k'=>
   rw[o] at e;have e:=Option.some.inj e;have e1:s=j:=(Prod.mk.inj e).1;have e2:k'=k:=(Prod.mk.inj e).2;rw[<-e1,<-e2];exact(L.get s (by omega) k').mp o
 ·intro e
  have hj:=L.le j (e9 e);refine⟨j,cT.mpr (by omega),?_⟩
  rw[dflt j hj,(L.get j hj k).mpr e];rfl
theorem CF(mask:Nat)(owner:Array (Option Nat)):((dH mask owner).map (·.1)).Pairwise (·<·):=by
 unfold dH;rw[lZ,List.pairwise_filterMap];refine List.pairwise_lt_range.imp λ {a b} h x hx y hy=>?_;cases oa:owner.getD a none with
 |none=>rw[oa] at hx;cases hx
 |some ka=>
  cases ob:owner.getD b none with
  |none=>rw[ob] at hy;cases hy
  |some kb=>
   rw[oa] at hx;rw[ob] at hy;cases(Option.some.inj hx);cases(Option.some.inj hy);exact h
theorem HW{mask:Nat}(f:tq mask)(hs:List Int)(room:hs.length<=mask)(finger moves:Nat)(led plain:Bool):
  ∃t order,laid mask finger moves led plain hs.toArray=some (t,order)/\t.mask=mask/\t.led=led/\t.plain=plain/\t.moves=moves/\order.toList.Perm (List.range hs.length)/\TOk t (order.toList.map λk=>hs.getD k 0):=by
 rfl';obtain⟨owner,ss,e,L⟩:=zg f hs (by omega)
 have lm:=λ {j k:Nat}=>Fy (j:=j) (k:=k) L;have ri:=CF mask owner;ac_rfl
 have mN:((dH mask owner).map (·.2)).Nodup:=by
  rw[DK,lZ];rw[lZ] at ri;refine ri.imp_of_mem λ {a b} ha hb Fe z=>?_;obtain⟨aj,ak⟩:=a;obtain⟨bj,bk⟩:=b;have h1:=lm.mp ha;have h2:=lm.mp hb;have z:ak=bk:=z;rw[z,h2] at h1
  have:=Option.some.inj h1
  have Fe:aj<bj:=Fe;omega
 have perm:((dH mask owner).map (·.2)).Perm (List.range hs.length):=by
  refine(yB mN List.nodup_range).mpr λk=>?_;rw[b8,cT]
  constructor
  ·rintro⟨⟨j,k'⟩,h,rfl⟩
   have:=(dE.mp (lm.mp h)).1
   rw[L.len] at this;exact this
  ·intro hk
   have gQ:k<ss.length:=by rw[L.len];exact hk
   exact⟨(ss[k],k),lm.mpr (bO gQ),rfl⟩
 have ll:(dH mask owner).length=hs.length:=by
  have:=perm.length_eq
  simpa using this
 refine⟨{mask,place:=((dH mask owner).map (·.1)).toArray,dummies:= #[],finger,led,moves,plain},((dH mask owner).map (·.2)).toArray,?_,rfl,rfl,rfl,rfl,by simpa using perm,?_⟩
 ·unfold laid
  rw[e];rfl
 have IU:∀(i j:Nat),((dH mask owner).map (·.1)).toArray[i]? =some j↔∃k,(dH mask owner)[i]? =some (j,k):=λi j=>by
  rw[List.getElem?_toArray,cA];cases o:(dH mask owner)[i]? with
  |none=>simp
  |some x=>
   obtain⟨a,b⟩:=x;simp
 have inn:∀s,s∈ss->∃i:Nat,((dH mask owner).map (·.1)).toArray[i]? =some s:=λs Fo=>by
  obtain⟨k,hk⟩:=sZ Fo;obtain⟨i,hi⟩:=sZ (lm.mpr hk);exact⟨i,(IU i s).mpr ⟨k,hi⟩⟩
 refine⟨f,rfl,?_,?_,?_,?_,?_⟩
 ·intro a b hb Fe
  have hb:b<((dH mask owner).map (·.1)).length:=hb
  have:=DL.mp ri a b (by omega) hb Fe
  simp[show a<(dH mask owner).length by simpa using(show a<((dH mask owner).map (·.1)).length by omega),show b<(dH mask owner).length by simpa using hb]
  simpa using this
 ·simp
 ·intro i j h
  obtain⟨k,hk⟩:=(IU i j).mp h;exact L.le j (e9 (lm.mp (e9 hk)))
 ·show((dH mask owner).map (·.1)).toArray.size<=mask
  simp[ll];exact room
 ·intro i h' hi
  rw[cA] at hi;cases o:(dH mask owner)[i]? with
  |none=>
   have:(((dH mask owner).map (·.2)).toArray.toList)[i]? =none:=by simp[o]
   rw[this] at hi;cases hi
  |some x=>
   obtain⟨j,k⟩:=x;have e1:(((dH mask owner).map (·.2)).toArray.toList)[i]? =some k:=by simp[o]
   rw[e1] at hi;have sk:=lm.mp (e9 o);have hk:k<hs.length:=by rw[<-L.len];exact(dE.mp sk).1
   have eh:hs[k]? =some h':=by
    rw[<-Option.some.inj hi];show _=some (hs.getD k 0);rw[aV,bO hk];rfl
   obtain⟨c,p1,p2⟩:=L.path k h' eh;rw[sk] at p1;refine⟨c,(IU i _).mpr ⟨k,by rw[o,Option.some.inj p1]⟩,λc' n9=>inn _ (p2 c' n9)⟩
end PySem.SetTable
namespace PySem
open SetTable PyProof.Rows
def fV(w:World):Bool:=w.params.followText "set-order"
structure lM (bt:Bool) (o:Obj) (es:Array (Int×Value)) (ep:Nat) (t:SetTable):Prop where
 ex:o.ExactSet
 dat:o.data= .set es ep t
 tok:TOk t (es.toList.map (·.1))
 pl:t.plain=true
 ld:t.led= !bt
 few:5*es.size<3*t.mask
theorem TOk.fits{t:SetTable}{hs:List Int}(T:TOk t hs):t.fits hs.length=true:=by
 simp only[SetTable.fits,SetTable.fill,T.dum,T.size,ma,beq_iff_eq,decide_eq_true_eq,true_and]
 have:=T.room
 rw[T.size] at this;simpa using this
theorem lM.fits{w:Bool}{o:Obj}{es:Array (Int×Value)}{ep:Nat}{t:SetTable}(S:lM w o es ep t):t.fits es.size=true:=by
 have:=TOk.fits S.tok
 simpa using this
theorem E9{mask n:Nat}(f:tq mask)(h:5*n<3*mask):n+1<=mask:=by
 rcases f with rfl|rfl|rfl|rfl<;>omega
theorem Cb{mask n:Nat}(f:tq mask)(h1:3*mask<=5*n)(h2:5*(n-1)<3*mask)(h3:n<=306):tq (sizeAbove (grown n)-1)/\5*n<3*(sizeAbove (grown n)-1)/\n<=sizeAbove (grown n)-1/\sizeAbove (grown n)<=512:=by
 rcases f with rfl|rfl|rfl|rfl
 ·have:n=5:=by omega
  subst this;exact⟨.inr (.inl rfl),by decide,by decide,by decide⟩
 ·have:n=19:=by omega
  subst this;exact⟨.inr (.inr (.inl rfl)),by decide,by decide,by decide⟩
 ·have:n=77:=by omega
  subst this;exact⟨.inr (.inr (.inr rfl)),by decide,by decide,by decide⟩
 ·omega
theorem Dc{t:SetTable}{es:Array (Int×Value)}(T:TOk t (es.toList.map (·.1)))(full:t.tooFull=true)(near:5*(es.size-1)<3*t.mask)(small:es.size<=306):
  ∃t' order,t.relaid (es.map (·.1)) (grown es.size)=some (t',order)/\order.toList.Perm (List.range es.size)/\(order.filterMap (es[·]?)).toList.Perm es.toList/\(order.filterMap (es[·]?)).size=es.size/\
   TOk t' ((order.filterMap (es[·]?)).toList.map (·.1))/\t'.plain=t.plain/\t'.led=t.led/\5*es.size<3*t'.mask/\sizeAbove (grown es.size)<=512:=by
 have sz:t.place.size=es.size:=by rw[T.size];simp
 have f1:3*t.mask<=5*es.size:=by
  unfold SetTable.tooFull SetTable.fill at full;rw[T.dum,sz] at full;simp at full;omega
 rfl';obtain⟨g1,g2,g3,g4⟩:=Cb T.few f1 near small;obtain⟨t',order,e,em,el,ep,_,pm,tk⟩:=HW g1 (es.toList.map (·.1)) (by simpa using g3) t.finger (t.movedTo (sizeAbove (grown es.size)-1)) t.led t.plain
 rw[aG,nM] at pm;ac_rfl
 have pf:(order.filterMap (es[·]?)).toList.Perm es.toList:=by
  rw[Array.toList_filterMap];exact(pm.filterMap _).trans (by rw[filterMap_getElem?_range])
 have sf:(order.filterMap (es[·]?)).size=es.size:=by rw[<-nM,pf.length_eq,nM]
 refine⟨t',order,?_,pm,pf,sf,?_,ep,el,by rw[em];exact g2,g4⟩
 ·unfold SetTable.relaid
  rw[show es.map (·.1)=(es.toList.map (·.1)).toArray by apply Array.toList_inj.mp;simp]
  exact e
 ·have:(order.filterMap (es[·]?)).toList.map (·.1)=order.toList.map λk=>(es.toList.map (·.1)).getD k 0:=by
   rw[Array.toList_filterMap];have lt:∀k∈order.toList,k<es.size:=λk hk=>cT.mp (pm.mem_iff.mp hk);generalize order.toList=l at lt
   induction l with
   |nil=>rfl
   |cons k l ih=>
    have hk:=lt k (b6 ..);rw[List.filterMap_cons_some (b:=es[k]) (by simp[hk]),iJ,iJ,ih λj hj=>lt j (bP _ hj)]
    simp[hk]
  rw[this];exact tk
end PySem
set_option maxHeartbeats 1000000
namespace PySem
open SetTable PyProof.Rows
section
variable {prog:Program} {w:World} {A:Around} {E:Value->Shared->Prop} {s:Shared}
theorem sR{h:Heap}{a:Addr}{o:Obj}{es:Array (Int×Value)}{ep:Nat}{t:SetTable}(ho:h.get? a=some o)(hd:o.data= .set es ep t)(mJ:Array (Int×Value))(t':SetTable):
  (h.update a (Obj.putSet mJ t')).get? a=some {o with data:= .set mJ (ep+1) t'}:=by
 have:=Heap.get?_update_self (Obj.putSet mJ t') ho (by rw[putSet_of mJ t' hd];rfl)
 rw[putSet_of mJ t' hd] at this;exact this
theorem uB{Q₁:Value->Shared->Prop}
  (h:Q₁ (.ref s.heap.objs.size) {s with heap:=s.heap.push {cls:= .type "set",dict:=none,data:= .set #[] 0 (.fresh 0 0 (!fV w))}}):
  codeAny (model prog w) A (.call (.builtin "set.__new__") ⟨[.type "set"],[]⟩) (wants Q₁ E) s:=by
 refine codeAny_of_tree ?_;refine wpAny_bind (wpAny_of_eq F.newCall_set_0 (wpAny_pure ⟨plainId_quiet F.plain_set_new _,codeAny_builtin F.entry_set_new ?_⟩));rw[Around.under_plainId F.plain_set_new _];unfold Builtin.«set.__new__» Builtin.Frozenset.newClass;have UM:=sub_set_self;obtain⟨hp,g,d,tk,os⟩:=s;dsimp only
 wp_walk
 refine wpAny_askSetting (wpAny_pure ?_);dsimp only;simp only[newObj];refine wpAny_bind (wpAny_alloc (wpAny_pure ?_));exact wpAny_pure h
theorem yO{Q:Value->Shared->Prop}
  (h:Q (.ref s.heap.objs.size) {s with heap:=s.heap.push {cls:= .type "set",dict:=none,data:= .set #[] 0 (.fresh 0 0 (!fV w))}}):
  wpAny (model prog w) A (call (.type "set") []) Q E s:=by
 obtain⟨c,tl,aae⟩:=F.called_set.mro;have aaa:=F.called_set.made;have UM:=F.called_set.sub;refine wpAny_call (codeAny_of_tree ?_);show wpAny _ _ (callAny (.type "set") _) _ _ _;refine wpAny_pure ⟨Code.quiet_builtin _ (by decide+kernel),codeAny_builtin F.entry_type_call ?_⟩
 rw[Around.under_plain (weight_type_call_type "set" [] []) rfl];have h1:=F.called_set.notType;have h2:=F.called_set.canCreate;have hct:=F.typeCall_set_0
 repeat (any_goals (first|assumption|wp_step))
 refine codeAny_mono (uB (E:=E) (Q₁:=λobj s₁=>obj= .ref s.heap.objs.size/\s₁={s with heap:=s.heap.push {cls:= .type "set",dict:=none,data:= .set #[] 0 (.fresh 0 0 (!fV w))}}) ⟨rfl,rfl⟩) λr s₁ hr=>?_
 cases r with
 |error e=>exact hr
 |ok fl=>
  cases fl with
  |ret obj=>
   obtain⟨rfl,rfl⟩:=hr;have hS:(s.heap.push {cls:= .type "set",dict:=none,data:= .set #[] 0 (.fresh 0 0 (!fV w))}).get? s.heap.objs.size=some {cls:= .type "set",dict:=none,data:= .set #[] 0 (.fresh 0 0 (!fV w))}:=Heap.get?_push_size _ rfl;have hT:Shared.TypeIs {s with heap:=s.heap.push {cls:= .type "set",dict:=none,data:= .set #[] 0 (.fresh 0 0 (!fV w))}} (.ref s.heap.objs.size) "set":=⟨_,hS,rfl⟩
   have hli:=F.called_set.init.lookup;have hbi:=F.called_set.init.bind (.ref s.heap.objs.size)
   repeat (any_goals (first|assumption|wp_step))
   refine codeAny_mono (codeAny_call_builtin (R:=wants (λr EF=>r= .none/\Q (.ref s.heap.objs.size) EF) E) F.called_set.init.plain F.entry_set_init (check_set_init hT ?_)) λXy EF Cp=>?_
   ·unfold Builtin.«set.__init__» noKeywords
    wp_walk
    exact⟨rfl,h⟩
   ·cases Xy with
    |error e=>exact Cp
    |ok O9=>
     cases O9 with
     |ret r=>
      obtain⟨rfl,hq⟩:=Cp
      repeat (any_goals (first|assumption|wp_step))
     |_=>exact Cp.elim
  |_=>exact hr.elim
theorem lM.new(w:World):lM (fV w) {cls:= .type "set",dict:=none,data:= .set #[] 0 (.fresh 0 0 (!fV w))} #[] 0 (.fresh 0 0 (!fV w)) where
 ex:=⟨rfl,rfl,rfl⟩
 dat:=rfl
 tok:=⟨.inl rfl,rfl,λi j hj=>by simp[SetTable.fresh] at hj,rfl,λi j h=>by simp[SetTable.fresh] at h,by simp[SetTable.fresh],λi h e=>by simp at e⟩
 pl:=rfl
 ld:=rfl
 few:=by simp[SetTable.fresh]
end
section
variable {prog:Program} {w:World} {A:Around} {E:Value->Shared->Prop} {s:Shared}
theorem ItemsAre.ints{ks:List Int}{vs:List Value}(h:ItemsAre (intKind prog w) ks vs):∀v∈vs,∃i t,v= .int i t:=by
 induction h with
 |nil=>intro v hv;simp at hv
 | @cons k v' ks vs h1 _ ih=>
  intro v hv
  rcases cm.mp hv with rfl|hv
  ·obtain⟨t,rfl⟩:=Value.isInt_shape h1
   exact⟨k,t,rfl⟩
  ·exact ih v hv
theorem nH{ks:List Int}{a:Addr}{Q:Bool->Shared->Prop}(hk:IsTupleKey (intKind prog w) s.heap ks a)(h:Q false s):wpAny (model prog w) A (ofAClassStatement 8 (.ref a)) Q E s:=by
 have hT:=hk.typeIs;obtain⟨o,items,n,ho,_,hd,hi⟩:=hk;unfold ofAClassStatement;refine wpAny_bind (wpAny_typeOf hT ?_);dsimp only;simp only[beq_self_eq_true, ↓reduceIte];refine wpAny_bind (wpAny_pure ?_);simp only[Bool.not_true,hV, ↓reduceIte];refine wpAny_bind (wpAny_seqItems ho hd ?_);dsimp only;refine wpAny_bind ?_;rw[<-Array.forIn_toList];refine wpAny_forIn_list _ (λrest r s'=>r.1=none/\s'=s/\∀v∈rest,∃i t,v=Value.int i t) _ ?_ ?_ _ _ ⟨rfl,rfl,hi.ints⟩
 ·rintro v rest r s' ⟨hr,rfl,jh⟩
  obtain⟨i,t,rfl⟩:=jh v b6;refine wpAny_bind (wpAny_of_eq (show ofAClassStatement 7 (.int i t)=pure false from by unfold ofAClassStatement;rfl) ?_)
  simp only[hV,if_false];exact wpAny_pure ⟨rfl,rfl,λu PR=>jh u (bP _ PR)⟩
 ·rintro⟨r1,r2⟩ s' ⟨hr,rfl,_⟩
  simp only at hr;subst hr;exact wpAny_pure h
theorem BE{ks:List Int}{b:Addr}{Q:Bool->Shared->Prop}(hk:IsTupleKey (intKind prog w) s.heap ks b)(stored:List Value)(hs:∀y∈stored,∃k' a,y=Value.ref a/\IsTupleKey (intKind prog w) s.heap k' a)(h:Q false s):
  wpAny (model prog w) A (searchCouldBeSeen (.ref b) stored) Q E s:=by
 unfold searchCouldBeSeen;refine wpAny_bind ?_;refine wpAny_forIn_list _ (λrest r s'=>r.1=none/\s'=s/\∀y∈rest,∃k' a,y=Value.ref a/\IsTupleKey (intKind prog w) s.heap k' a) _ ?_ ?_ _ _ ⟨rfl,rfl,hs⟩
 ·rintro y rest r s' ⟨hr,rfl,jh⟩
  obtain⟨k',a,rfl,gQ⟩:=jh y b6;have tl:∀y∈rest,∃k' a,y=Value.ref a/\IsTupleKey (intKind prog w) s'.heap k' a:=λy hy=>jh y (bP _ hy);have e:(carriedByValue (Value.ref b)&&carriedByValue (Value.ref a))=false:=by simp[carriedByValue]
  dsimp only;rw[e,Bool.or_false]
  by_cases c:(b==a)=true
  ·rw[if_pos c]
   exact wpAny_pure ⟨rfl,rfl,tl⟩
  ·rw[if_neg c]
   refine wpAny_bind (wpAny_eqIsQuiet_tuple hk ?_);simp only[Bool.not_true,hV,if_false];refine wpAny_bind (wpAny_eqIsQuiet_tuple gQ ?_);simp only[Bool.not_true,hV,if_false];refine wpAny_bind (nH hk ?_);simp only[hV,if_false];refine wpAny_bind (nH gQ ?_);simp only[hV,if_false];exact wpAny_pure ⟨rfl,rfl,tl⟩
 ·rintro⟨r1,r2⟩ s' ⟨hr,rfl,_⟩
  simp only at hr;subst hr;exact wpAny_pure h
theorem w9{ks:List Int}{a:Addr}{Q:Bool->Shared->Prop}(hk:IsTupleKey (intKind prog w) s.heap ks a)(h:Q true s):wpAny (model prog w) A (hashByValue 8 (.ref a)) Q E s:=by
 rfl';have hT:=hk.typeIs;obtain⟨o,items,n,ho,_,hd,hi⟩:=hk;ac_rfl;unfold hashByValue;refine wpAny_bind (wpAny_specialOf hT F.slot_tuple_hash.lookup ?_);dsimp only;refine wpAny_bind (wpAny_seqItems ho hd ?_);refine wpAny_bind ?_;show wpAny _ _ (forIn items _ _) _ _ s;rw[<-Array.forIn_toList];refine wpAny_forIn_list _ (λrest r s'=>r.1=none/\s'=s/\∀v∈rest,∃i t,v=Value.int i t) _ ?_ ?_ _ _ ⟨rfl,rfl,hi.ints⟩
 ·rintro v rest r s' ⟨hr,rfl,jh⟩
  obtain⟨i,t,rfl⟩:=jh v b6;refine wpAny_bind (wpAny_of_eq (show hashByValue 7 (.int i t)=pure true from by unfold hashByValue;rfl) ?_)
  simp only[Bool.not_true,hV,if_false];exact wpAny_pure ⟨rfl,rfl,λu PR=>jh u (bP _ PR)⟩
 ·rintro⟨r1,r2⟩ s' ⟨hr,rfl,_⟩
  simp only at hr;subst hr;exact wpAny_pure h
def Gs(prog:Program)(w:World)(h:Heap)(es:Array (Int×Value)):Prop:=∀(i:Nat)(e:Int×Value),es[i]? =some e->∃k a,e=(tupleKeyHash (intKind prog w) k, .ref a)/\IsTupleKey (intKind prog w) h k a
def JM(es:Array (Int×Value))(i:Nat):Int:=(es[i]?.map (·.1)).getD 0
theorem Hl{m:Nat}(h:tq m):m%2=1:=by rcases h with rfl|rfl|rfl|rfl<;>rfl
theorem yg{xs:Array Nat}(R:my xs){i j v:Nat}(hi:xs[i]? =some v)(hj:xs[j]? =some v):i=j:=by
 rw[<-below_at R hi,<-below_at R hj]
theorem oJ{a:Addr}{o:Obj}{es:Array (Int×Value)}{ep:Nat}{t:SetTable}{b:Addr}{ks:List Int}{fA:Bool}{Q:SetFound->Shared->Prop}(hu:A.units<cLine)(ho:s.heap.get? a=some o)(S:lM (fV w) o es ep t)(P:Gs prog w s.heap es)(hk:IsTupleKey (intKind prog w) s.heap ks b)
  (KQ:(∃(i:Nat)(c:Addr),es[i]? =some (tupleKeyHash (intKind prog w) ks, .ref c)/\IsTupleKey (intKind prog w) s.heap ks c)->∀r:Option Nat,(fA=false->r.isSome=true)->Q (.there r) s)
  (y3:(∀(i:Nat)(e:Int×Value),es[i]? =some e->∀c,e.2= .ref c->¬IsTupleKey (intKind prog w) s.heap ks c)->∀k0,(∀i:Nat,t.place[i]? ≠some (bS t.mask (tupleKeyHash (intKind prog w) ks) k0))->(∀k',k'<k0->∃i:Nat,t.place[i]? =some (bS t.mask (tupleKeyHash (intKind prog w) ks) k'))->
   Q (.free (bS t.mask (tupleKeyHash (intKind prog w) ks) k0) false) s):
  wpAny (model prog w) A (setSearch a (.ref b) (tupleKeyHash (intKind prog w) ks) fA) Q E s:=by
 generalize hh:tupleKeyHash (intKind prog w) ks=h at*;have T:=S.tok;obtain⟨s0,hs0,Uk⟩:=T.empty;obtain⟨K,hK,eK⟩:=meets T.few (rm.start t.mask h) hs0;have eK:bS t.mask h K=s0:=by unfold bS;rw[lG];exact eK
 have kb:K<6000:=by
  have:10*turns t.mask<=5260:=by
   rcases T.few with e|e|e|e<;>rw[e]<;>decide
  omega
 have sz:t.place.size=es.size:=by rw[T.size];simp
 have hN:(t.mask%2==0)=false:=by rw[Hl T.few];rfl
 have main:∀(n:Nat)(k:Nat)(fuel:Nat)(vT:Option Probe),K+1-k<=n->n<fuel->k<=K->vT.getD (t.probeStart h)=pI t.mask h k->(∀k',k'<k->∃i:Nat,t.place[i]? =some (bS t.mask h k'))->
   (∀(i:Nat) c,es[i]? =some (h, .ref c)->IsTupleKey (intKind prog w) s.heap ks c->∀kx,t.place[i]? =some (bS t.mask h kx)->k<=kx)->
   wpAny (model prog w) A (setSearchFrom a (.ref b) h fA fuel vT) Q E s:=by
  intro n
  induction n with
  |zero=>intro k fuel vT h1 h2 h3;omega
  |succ n ih=>
   intro k fuel vT h1 h2 h3 h4 h5 h6;obtain⟨f,rfl⟩:∃f,fuel=f+1:=⟨fuel-1,by omega⟩
   unfold setSearchFrom;refine wpAny_bind (wpAny_setState_of ho S.dat S.fits ?_);dsimp only;unfold SetTable.gaveWay;rw[hN];simp only[hV,if_false]
   have T6:∀(i:Nat)(e:Int×Value),es[i]? =some e->JM es i=e.1:=λi e hi=>by
    show(es[i]?.map (·.1)).getD 0=e.1;rw[hi];rfl
   generalize hq:t.probe _ h (vT.getD (t.probeStart h))=r;have hq:t.probe (JM es) h (pI t.mask h k)=r:=by rw[<-h4];exact hq
   generalize JM es=hA at T6 hq;obtain⟨k0,hk0,hp,alt⟩:=TOk.probe T hA h k
   have k0K:k0<=K:=by
    apply Classical.byContradiction;intro c;obtain⟨i,hi,_⟩:=hp K h3 (by omega)
    rw[eK] at hi;exact Uk i hi
   have Lr:∀k',k'<k0->∃i:Nat,t.place[i]? =some (bS t.mask h k'):=λk' h'=>by
    by_cases c:k'<k
    ·exact h5 k' c
    ·obtain⟨i,hi,_⟩:=hp k' (by omega) h'
     exact⟨i,hi⟩
   have later:∀(i:Nat) c,es[i]? =some (h, .ref c)->IsTupleKey (intKind prog w) s.heap ks c->∀kx,t.place[i]? =some (bS t.mask h kx)->k0<=kx:=λi c hi hc kx Co=>by
    have hkx:=h6 i c hi hc kx Co;apply Classical.byContradiction;intro z;obtain⟨i',gJ,y8⟩:=hp kx hkx (by omega)
    have:i=i':=yg T.rise Co gJ
    subst this;exact y8 (T6 i _ hi)
   rcases alt with ⟨HE,ep⟩ | ⟨i,hi,hhi,ep⟩
   ·rw[ep] at hq
    subst hq;dsimp only;refine wpAny_pure (y3 (λi e hi c hc Uu=>?_) k0 HE Lr);obtain⟨k',a',e1,gQ⟩:=P i e hi;subst e1;cases hc
    have:k'=ks:=gQ.inj Uu
    subst this;rw[hh] at hi;obtain⟨ky,UT,hy2⟩:=T.path i h (by rw[cA,kL,hi];rfl)
    have lt:=later i _ hi Uu ky UT
    by_cases c1:k0<ky
    ·obtain⟨i',gJ⟩:=hy2 k0 c1
     exact HE i' gJ
    ·have:ky=k0:=by omega
     subst this;exact HE i UT
   ·rw[ep] at hq
    subst hq;dsimp only
    have U0:i<es.size:=by
     have:=(BG.mp hi).1
     omega
    obtain⟨k',c,e1,gQ⟩:=P i es[i] (yC U0);have ei:es[i]? =some (tupleKeyHash (intKind prog w) k', .ref c):=by rw[yC U0,e1]
    have rest:wpAny (model prog w) A (match es[i]? with
      |some (fst,y)=>do
       let equal <-holding [y] (eqBool y (Value.ref b))
       let __x <-setState a
       if (fA&&equal)=true then pure (SetFound.there none)
        else
         match __x.2.snd.sameMemory t.moves t.mask with
         |some same=>
          match if same=true then __x.2.snd.slot (bS t.mask h k0) else Slot.empty with
          |Slot.live i'=>
           match __x.fst[i']? with
           |some (fst,y')=>do
            let __do_lift <-isSame y' y
            let vU <-pure (if __do_lift=true then some i' else none)
            match vU with
             |none=>do
              rule "set.search.anew"
              setSearchFrom a (Value.ref b) h fA f none
             |some i'=>
              if equal=true then pure (SetFound.there (some i'))
              else setSearchFrom a (Value.ref b) h fA f (some (pI t.mask h (k0+1)))
           |none=>do
            let vU <-pure none
            match vU with
             |none=>do
              rule "set.search.anew"
              setSearchFrom a (Value.ref b) h fA f none
             |some i'=>
              if equal=true then pure (SetFound.there (some i'))
              else setSearchFrom a (Value.ref b) h fA f (some (pI t.mask h (k0+1)))
          |x=>do
           let vU <-pure none
           match vU with
            |none=>do
             rule "set.search.anew"
             setSearchFrom a (Value.ref b) h fA f none
            |some i'=>
             if equal=true then pure (SetFound.there (some i'))
             else setSearchFrom a (Value.ref b) h fA f (some (pI t.mask h (k0+1)))
         |x=>unsupported "set.changed-during-lookup:is-the-new-block-at-the-old-address"
      |x=>unsupported "internal:set-entry") Q E s:=by
     rw[ei];dsimp only;refine wpAny_bind (wpAny_holding (wpAny_eqBool_tuple hu gQ hk ?_));refine wpAny_bind (wpAny_setState_of ho S.dat S.fits ?_);dsimp only;have sm:t.sameMemory t.moves t.mask=some true:=by unfold SetTable.sameMemory;simp
     have y8:k'≠ks->wpAny (model prog w) A (setSearchFrom a (Value.ref b) h fA f (some (pI t.mask h (k0+1)))) Q E s:=λne=>by
      by_cases kk:k0=K
      ·subst kk
       rw[eK] at hi;exact absurd hi (Uk i)
      refine ih (k0+1) f _ (by omega) (by omega) (by omega) rfl (λK8 h''=>?_) λi' c' gJ n9 kx Co=>?_
      ·by_cases z:K8=k0
       ·subst z;exact⟨i,hi⟩
       ·exact Lr K8 (by omega)
      ·have l1:=later i' c' gJ n9 kx Co
       have:kx≠k0:=λz=>by
        subst z
        have:i'=i:=yg T.rise Co hi
        subst this;rw[ei] at gJ;cases gJ;exact ne (gQ.inj n9)
       omega
     have there:k'=ks->∀r:Option Nat,(fA=false->r.isSome=true)->Q (.there r) s:=λe=>by
      subst e;rw[hh] at ei;exact KQ ⟨i,c,ei,gQ⟩
     by_cases e:k'=ks
     ·rw[decide_eq_true e,Bool.and_true]
      cases fA with
      |true=>exact wpAny_pure (there e none λz=>absurd z (by decide))
      |false=>
       simp only[hV,if_false];rw[sm];dsimp only;rw[if_pos rfl,pH T.rise hi];dsimp only;rw[ei];dsimp only;refine wpAny_bind (wpAny_isSame_ref_self ?_);refine wpAny_bind (wpAny_pure ?_);simp only[if_true];exact wpAny_pure (there e (some i) λ_=>rfl)
     ·rw[decide_eq_false e,Bool.and_false]
      simp only[hV,if_false];rw[sm];dsimp only;rw[if_pos rfl,pH T.rise hi];dsimp only;rw[ei];dsimp only;refine wpAny_bind (wpAny_isSame_ref_self ?_);refine wpAny_bind (wpAny_pure ?_);simp only[if_true];exact y8 e
    by_cases led:(!t.led)=true
    ·rw[if_pos led]
     refine wpAny_bind (BE hk _ (λy hy=>?_) ?_)
     ·obtain⟨e,he,rfl⟩:=b8.mp hy
      have he:=(Array.mem_filter.mp (Array.mem_toList_iff.mp he)).1;obtain⟨i',gJ,rfl⟩:=Array.mem_iff_getElem.mp he;obtain⟨K8,c',e1,Ut⟩:=P i' es[i'] (yC gJ);exact⟨K8,c',by rw[e1],Ut⟩
     ·simp only[hV,if_false]
      exact rest
    ·rw[if_neg led]
     exact rest
 refine main (K+1) 0 100000 none (bC _) (by omega) (cM _) rfl (λk' h'=>by omega) λi c hi hc kx _=>cM _
end
section
variable {prog:Program} {w:World} {A:Around} {E:Value->Shared->Prop} {s:Shared}
theorem sh(b:Addr)(es:Array (Int×Value)):byScan (.ref b) es=false:=rfl
theorem w6{a:Addr}{o:Obj}{es:Array (Int×Value)}{ep:Nat}{t:SetTable}{b:Addr}{ks:List Int}{Q:Option Nat->Shared->Prop}(hu:A.units<cLine)(ho:s.heap.get? a=some o)(S:lM (fV w) o es ep t)(P:Gs prog w s.heap es)(hk:IsTupleKey (intKind prog w) s.heap ks b)
  (hy:(∃(i:Nat)(c:Addr),es[i]? =some (tupleKeyHash (intKind prog w) ks, .ref c)/\IsTupleKey (intKind prog w) s.heap ks c)->∀r:Option Nat,r.isSome=true->Q r s)
  (hn:(∀(i:Nat)(e:Int×Value),es[i]? =some e->∀c,e.2= .ref c->¬IsTupleKey (intKind prog w) s.heap ks c)->Q none s):
  wpAny (model prog w) A (setFind a (.ref b) (tupleKeyHash (intKind prog w) ks)) Q E s:=by
 unfold setFind setFindIn;refine wpAny_bind (wpAny_setState_of ho S.dat S.fits ?_);dsimp only;rw[sh];simp only[hV,if_false];refine wpAny_bind (oJ hu ho S P hk (λh r hr=>?_) λh k0 _ _=>?_)
 ·exact wpAny_pure (hy h r (hr rfl))
 ·exact wpAny_pure (hn h)
theorem zM{a:Addr}{o:Obj}{es:Array (Int×Value)}{ep:Nat}{t:SetTable}{b:Addr}{ks:List Int}{Q:Bool->Shared->Prop}(hu:A.units<cLine)(ho:s.heap.get? a=some o)(S:lM (fV w) o es ep t)(P:Gs prog w s.heap es)(hk:IsTupleKey (intKind prog w) s.heap ks b)(room:es.size<=305)
  (hy:(∃(i:Nat)(c:Addr),es[i]? =some (tupleKeyHash (intKind prog w) ks, .ref c)/\IsTupleKey (intKind prog w) s.heap ks c)->Q false s)
  (hn:(∀(i:Nat)(e:Int×Value),es[i]? =some e->∀c,e.2= .ref c->¬IsTupleKey (intKind prog w) s.heap ks c)->∀h' o' mJ B7 t',Heap.SameBut a s.heap h'->h'.get? a=some o'->lM (fV w) o' mJ B7 t'->mJ.toList.Perm (es.toList++ [(tupleKeyHash (intKind prog w) ks, .ref b)])->Q true {s with heap:=h'}):
  wpAny (model prog w) A (setAddHashed a (.ref b) (tupleKeyHash (intKind prog w) ks)) Q E s:=by
 have hd:=S.dat;have hf:=S.fits;have T:=S.tok;have sz:t.place.size=es.size:=by rw[T.size];simp
 unfold setAddHashed setAddHashedIn;refine wpAny_holding (wpAny_bind (wpAny_setState_of ho hd hf ?_));dsimp only;rw[sh];simp only[hV,if_false];refine wpAny_bind (oJ hu ho S P hk (λh r hr=>?_) λh k0 emp Lr=>?_)
 ·exact wpAny_pure (hy h)
 ·dsimp only
  refine wpAny_bind (wpAny_setState_of ho hd hf ?_);dsimp only;obtain⟨p1,p2,p3⟩:=TOk.put T emp Lr (by rw[sz];exact E9 T.few S.few)
  rw[p1]
  have e:(SetTable.insertAt es (below t.place (bS t.mask (tupleKeyHash (intKind prog w) ks) k0)) (tupleKeyHash (intKind prog w) ks,Value.ref b)).toList.map (·.1)=(es.toList.map (·.1)).take (below t.place (bS t.mask (tupleKeyHash (intKind prog w) ks) k0))++tupleKeyHash (intKind prog w) ks::(es.toList.map (·.1)).drop (below t.place (bS t.mask (tupleKeyHash (intKind prog w) ks) k0)):=by
   rw[SetTable.toList_insertAt];simp
  rw[<-e] at p3;have pl:(t.put (bS t.mask (tupleKeyHash (intKind prog w) ks) k0)).1.plain=true:=S.pl;have ld:(t.put (bS t.mask (tupleKeyHash (intKind prog w) ks) k0)).1.led= !fV w:=S.ld;have mk:(t.put (bS t.mask (tupleKeyHash (intKind prog w) ks) k0)).1.mask=t.mask:=rfl;generalize hx:((tupleKeyHash (intKind prog w) ks,Value.ref b):Int×Value)=x at*;generalize hp:below t.place (bS t.mask (tupleKeyHash (intKind prog w) ks) k0)=p at*;generalize (t.put (bS t.mask (tupleKeyHash (intKind prog w) ks) k0)).1=t1 at*;rw[if_pos pl];refine wpAny_bind (w9 hk ?_);simp only[if_true,Bool.not_false,Bool.true_and];have w4:(SetTable.insertAt es p x).size=es.size+1:=SetTable.gy ..;have IY:=SetTable.insertAt_perm es p x;rw[Array.toList_push] at IY;refine wpAny_bind (wpAny_storeSet_of ho hd ?_ (by rw[w4];refine fits_of_scanBound ?_;show es.size+1<4096;omega))
  have y9:=sR ho hd (SetTable.insertAt es p x) t1;have XB:=Heap.SameBut.update s.heap a (Obj.putSet (SetTable.insertAt es p x) t1)
  have ft1:t1.fits (SetTable.insertAt es p x).size=true:=by
   have:=TOk.fits p3
   rw[aG,nM] at this;exact this
  by_cases full:t1.tooFull=true
  ·rw[if_pos full]
   refine ag λG0 k0=>?_;obtain⟨t2,order,eR,_,pf,sf,T2,pl2,l2,f2,Xz⟩:=Dc p3 full (by rw[w4,mk];have:=S.few;omega) (by rw[w4];omega)
   refine k0 ?_;rw[w4] at eR f2 Xz;refine wpAny_bind ?_;unfold setRelay;refine wpAny_bind (wpAny_setState_of y9 rfl ft1 ?_);dsimp only;have big:512<=sizeLine:=by decide
   rw[if_neg (by omega),eR]
   have Yd:(order.filterMap ((SetTable.insertAt es p x)[·]?)).size=es.size+1:=by rw[sf,w4]
   refine wpAny_bind (wpAny_of_eq (a:=(order.filterMap ((SetTable.insertAt es p x)[·]?),t2)) ?_ ?_)
   ·show(if ((order.filterMap ((SetTable.insertAt es p x)[·]?)).size !=(SetTable.insertAt es p x).size)=true then _ else pure (order.filterMap ((SetTable.insertAt es p x)[·]?),t2))=_
    rw[if_neg (by rw[sf];simp)]
   ·dsimp only
    refine wpAny_storeSet_of y9 rfl ?_ (by rw[Yd];refine fits_of_scanBound ?_;show es.size+1<4096;omega)
    have AF:=sR y9 rfl (order.filterMap ((SetTable.insertAt es p x)[·]?)) t2;exact wpAny_pure (hn h _ _ _ _ t2 (XB.trans (Heap.SameBut.update _ a _)) AF ⟨S.ex,rfl,T2,by rw[pl2];exact pl,by rw[l2];exact ld,by rw[Yd];exact f2⟩ (pf.trans IY))
  ·rw[if_neg full]
   refine wpAny_pure (hn h _ _ _ _ t1 XB y9 ⟨S.ex,rfl,p3,pl,ld,?_⟩ IY);have ff:t1.tooFull=false:=by simpa using full
   unfold SetTable.tooFull SetTable.fill at ff;rw[p3.dum,p3.size] at ff;simp at ff;omega
variable {a b:Addr} {o:Obj} {es:Array (Int×Value)} {ep:Nat} {t:SetTable} {ks:List Int}
open Classical in
noncomputable def mL(prog:Program)(w:World)(h:Heap)(es:Array (Int×Value))(ks:List Int):Bool:=decide (∃(i:Nat)(c:Addr),es[i]? =some (tupleKeyHash (intKind prog w) ks, .ref c)/\IsTupleKey (intKind prog w) h ks c)
theorem HA(h:∀(i:Nat)(e:Int×Value),es[i]? =some e->∀c,e.2= .ref c->¬IsTupleKey (intKind prog w) s.heap ks c):mL prog w s.heap es ks=false:=by
 classical
 unfold mL;exact decide_eq_false λ⟨i,c,h1,h2⟩=>h i _ h1 c rfl h2
theorem Ff(h:∃(i:Nat)(c:Addr),es[i]? =some (tupleKeyHash (intKind prog w) ks, .ref c)/\IsTupleKey (intKind prog w) s.heap ks c):mL prog w s.heap es ks=true:=by
 classical
 unfold mL;exact decide_eq_true h
theorem qS{Q:Bool->Shared->Prop}(hu:A.units+64<cLine)(ho:s.heap.get? a=some o)(S:lM (fV w) o es ep t)(P:Gs prog w s.heap es)(hk:IsTupleKey (intKind prog w) s.heap ks b)
  (h:∀tk,Q (mL prog w s.heap es ks) {s with toks:=tk}):wpAny (model prog w) A (contains (.ref a) (.ref b)) Q E s:=by
 have hT:s.TypeIs (.ref a) "set":=⟨o,ho,S.ex.1⟩;unfold contains
 try with_reducible refine wpAny_holding ?_
 refine wpAny_bind (wpAny_specialOf hT F.slot_set_contains.lookup ?_);show wpAny _ _ (if (some (Value.builtin "set.__contains__")==some Value.none)=true then _ else _) _ E s;rw[if_neg (by rw[beq_builtin_none];exact cK)]
 refine wpAny_bind (wpAny_callSpecialUnlessNone?_slot (name:=Str.ofString "__contains__") hT F.slot_set_contains
  (wpAny_call_entry F.slot_set_contains hT entry_set_contains ?_ (F.args_set_contains_2 _ _)))
 unfold Builtin.«frozenset.__contains__» Builtin.Frozenset.oneOther;simp only[List.isEmpty_nil,bind_assoc];unfold Builtin.Frozenset.addrOf Builtin.Frozenset.withSetAsKey setContains;refine wpAny_bind (wpAny_pure ?_)
 try dsimp only
 refine wpAny_bind (wpAny_pure ?_)
 try dsimp only
 refine wpAny_bind (wpAny_tryCatch ?_);refine wpAny_holding ?_;refine wpAny_bind (wpAny_pyHash_tuple ?_ hk ?_)
 ·show A.units+1<cLine;omega
 refine wpAny_bind (w6 (s:={s with toks:=s.toks+(ks.length+1)}) ?_ ho S P hk (λhy r hr=>?_) λhn=>?_)
 ·show A.units+1<cLine;omega
 ·refine wpAny_pure ?_
  show wpAny _ _ (ret (Value.bool r.isSome)) _ _ _;rw[hr]
  have:=h (s.toks+(ks.length+1))
  rw[Ff hy] at this;exact wpAny_pure ⟨_,rfl,wpAny_truthy_bool this⟩
 ·refine wpAny_pure ?_
  have:=h (s.toks+(ks.length+1))
  rw[HA hn] at this;exact wpAny_pure ⟨_,rfl,wpAny_truthy_bool this⟩
end
end PySem
set_option maxHeartbeats 4000000
namespace L2
open PySem PySem.Spec PyProof.Rows
inductive FV where
 |int (i:Int) |bl (b:Bool)
inductive XD where
 |qD (b:Bool) (ps:List (Int×Int)) |NN (ks:List (Int×Int)) (vs:List FV)
inductive D where
 |bb|bl (b:Bool) |int (i:Int) |str (x:Str) |lst (l:List D) |tup (l:List D) |mm (ns:List Int) |rng (lo hi:Int) |obj (a:Addr) |dA (w:List (List Nat)) |set (b:Bool) (l:List Int) |x (k:XD) |err (C:Addr) (ks:List Str) (l:List D)
structure DC where
 K:PySem.W.Frag
 C:Addr
def af(n:Nat):D:= .int n
def ar(r:List Nat):D:= .lst (r.map af)
def ay(w:List (List Nat)):D:= .lst (w.map ar)
def Q5(es:Array (Int×Value))(ns:List Int):Prop:=(∀e∈es.toList,∃k t,e=(hashInt k,Value.int k t))/\ns.Nodup/\∃ms,IntsAre (es.toList.map (·.2)) ms/\ms.Perm ns
def ME(b:Bool)(a:Addr)(ns:List Int)(h:Heap):Prop:=∃o es ep t,h.get? a=some o/\lM b o es ep t/\Q5 es ns
def gj(p:Int×Int):Int:=reduceHash (Builtin.Tuple.tupleHashOf [hashInt p.1,hashInt p.2])
inductive ja (H:Hp):List (Int×Addr)->List (Int×Int)->Prop
 |nil:ja H [] []
 |cons {a:Addr} {p:Int×Int} {es:List (Int×Addr)} {ps:List (Int×Int)}:H a=some (.tup [.int p.1, .int p.2])->ja H es ps->ja H ((gj p,a)::es) (p::ps)
theorem ja.mono{H H':Hp}(s:aK H H'):∀{es:List (Int×Addr)}{ps:List (Int×Int)},ja H es ps->ja H' es ps
 |_,_, .nil=> .nil
 |_,_, .cons h t=> .cons (s _ _ h) (t.mono s)
def fk(b:Bool)(a:Addr)(es:List (Int×Addr))(h:Heap):Prop:=∃o eA ep t,h.get? a=some o/\lM b o eA ep t/\eA.toList.Perm (es.map λe=>(e.1,Value.ref e.2))
def YH:FV->Value->Prop
 | .int i,v=>∃t,v= .int i t
 | .bl b,v=>v= .bool b
inductive J6:List DictEntry->List (Int×Addr)->List FV->Prop
 |nil:J6 [] [] []
 |cons {e:DictEntry} {l:List DictEntry} {h:Int} {a:Addr} {v:FV} {es:List (Int×Addr)} {vs:List FV}:e.hash=h->e.key= .ref a->YH v e.val->J6 l es vs->J6 (e::l) ((h,a)::es) (v::vs)
def N5(a:Addr)(es:List (Int×Addr))(vs:List FV)(h:Heap):Prop:=(a==sysModules)=false/\∃o eA ep,h.get? a=some o/\o.ExactDict/\o.data= .dict eA ep/\J6 eA.toList es vs
def EO(H:Hp)(a:Addr)(φ:Heap->Prop):XD->Prop
 | .qD b ps=>ps.Nodup/\∃es,φ=fk b a es/\ja H es ps
 | .NN ks vs=>ks.Nodup/\∃es,φ=N5 a es vs/\ja H es ks
theorem EO.mono{H H':Hp}(s:aK H H'){a:Addr}{φ:Heap->Prop}:∀{k:XD},EO H a φ k->EO H' a φ k
 | .qD _ _,⟨n,es,e,p⟩=>⟨n,es,e,p.mono s⟩
 | .NN _ _,⟨n,es,e,p⟩=>⟨n,es,e,p.mono s⟩
def J9(H:Hp)(od:Option Addr)(ks:List Str)(xs:List V):Prop:=(od=none/\ks= []/\xs= [])\/∃dx,od=some dx/\H dx=some (YM dx (ks.zip xs))/\ks.length=xs.length
theorem J9.mono{H H':Hp}(s:aK H H'){od:Option Addr}{ks:List Str}{xs:List V}(h:J9 H od ks xs):J9 H' od ks xs:=h.imp id λ⟨dx,a,b,c⟩=>⟨dx,a,s _ _ b,c⟩
mutual
inductive Dv (Z:DC) (H:Hp):V->D->Prop
 |bb:Dv Z H .bb .bb
 |bl (b:Bool):Dv Z H (.bl b) (.bl b)
 |int (i:Int):Dv Z H (.int i) (.int i)
 |str (x:Str) (h:PyData.strOk x=true):Dv Z H (.str x) (.str x)
 |lst {a:Addr} {xs:List V} {ds:List D}:H a=some (.lst xs)->DvAll Z H xs ds->Dv Z H (.ref a) (.lst ds)
 |tup {a:Addr} {xs:List V} {ds:List D}:H a=some (.tup xs)->DvAll Z H xs ds->Dv Z H (.ref a) (.tup ds)
 |obj (a:Addr):Dv Z H (.ref a) (.obj a)
 |rng {a:Addr} {lo hi:Int}:H a=some (.rng lo hi)->Dv Z H (.ref a) (.rng lo hi)
 |mm {a:Addr} {ns:List Int}:bU Z.K H a (ns.map V.int)->ns.length<=63->Dv Z H (.ref a) (.mm ns)
 |dA {p dx R:Addr} {w:List (List Nat)}:H p=some (.ins Z.C dx [("rows", .ref R)])->Dv Z H (.ref R) (ay w)->Wb.Good w->1<=w.length->w.length<=14->Dv Z H (.ref p) (.dA w)
 |set {a:Addr} {b:Bool} {ns:List Int}:H a=some (.ext (ME b a ns))->Dv Z H (.ref a) (.set b ns)
 |x {a:Addr} {φ:Heap->Prop} {k:XD}:H a=some (.ext φ)->EO H a φ k->Dv Z H (.ref a) (.x k)
 |err {a C:Addr} {od:Option Addr} {ks:List Str} {xs:List V} {ds:List D}:H a=some (Q2 C a od)->J9 H od ks xs->DvAll Z H xs ds->Dv Z H (.ref a) (.err C ks ds)
inductive DvAll (Z:DC) (H:Hp):List V->List D->Prop
 |nil:DvAll Z H [] []
 |cons {v:V} {vs:List V} {d:D} {ds:List D}:Dv Z H v d->DvAll Z H vs ds->DvAll Z H (v::vs) (d::ds)
end
theorem bU.mono{K:PySem.W.Frag}{H H':Hp}{a:Addr}{xs:List V}(s:aK H H')(h:bU K H a xs):bU K H' a xs:=by
 rcases h with (h| ⟨o,h⟩) |h
 ·exact .inl (.inl (s _ _ h))
 ·exact .inl (.inr ⟨o,s _ _ h⟩)
 ·exact .inr h
section
variable {Z:DC} {H H' G G':Hp}
theorem Dv.ofInt{v:V}{i:Int}(h:Dv Z H v (.int i)):v= .int i:=by cases h;rfl
theorem Dv.Eu{v:V}{b:Bool}(h:Dv Z H v (.bl b)):v= .bl b:=by cases h;rfl
theorem Dv.jl{v:V}{ds:List D}(h:Dv Z H v (.lst ds)):∃a xs,v= .ref a/\H a=some (.lst xs)/\DvAll Z H xs ds:=by cases h with|lst h e=>exact⟨_,_,rfl,h,e⟩
theorem Dv.rS{v:V}{ds:List D}(h:Dv Z H v (.tup ds)):∃a xs,v= .ref a/\H a=some (.tup xs)/\DvAll Z H xs ds:=by cases h with|tup h e=>exact⟨_,_,rfl,h,e⟩
theorem Dv.Iy{v:V}{ns:List Int}(h:Dv Z H v (.mm ns)):∃a,v= .ref a/\bU Z.K H a (ns.map V.int)/\ns.length<=63:=by cases h with|mm h z=>exact⟨_,rfl,h,z⟩
theorem DvAll.Iw{vs:List V}(h:DvAll Z H vs []):vs= []:=by cases h;rfl
theorem DvAll.zt{vs:List V}{d:D}{ds:List D}(h:DvAll Z H vs (d::ds)):∃v us,vs=v::us/\Dv Z H v d/\DvAll Z H us ds:=by cases h with|cons a b=>exact⟨_,_,rfl,a,b⟩
theorem DvAll.ofOne{vs:List V}{d:D}(h:DvAll Z H vs [d]):∃v,vs= [v]/\Dv Z H v d:=by
 obtain⟨v,us,rfl,a,b⟩:=h.zt;rw[b.Iw];exact⟨v,rfl,a⟩
theorem DvAll.zu{vs:List V}{d e:D}(h:DvAll Z H vs [d,e]):∃v u,vs= [v,u]/\Dv Z H v d/\Dv Z H u e:=by
 obtain⟨v,us,rfl,a,b⟩:=h.zt;obtain⟨u,rfl,c⟩:=b.ofOne;exact⟨v,u,rfl,a,c⟩
theorem Dv.mono(s:aK H H'){v:V}{d:D}(h:Dv Z H v d):Dv Z H' v d:=
 Dv.rec (motive_1:=λv d _=>Dv Z H' v d) (motive_2:=λvs ds _=>DvAll Z H' vs ds) .bb .bl .int .str (λh _ a=> .lst (s _ _ h) a) (λh _ a=> .tup (s _ _ h) a) .obj (λh=> .rng (s _ _ h)) (λh z=> .mm (h.mono s) z) (λh _ g a b r=> .dA (s _ _ h) r g a b) (λh=> .set (s _ _ h)) (λh k=> .x (s _ _ h) (k.mono s)) (λh k _ a=> .err (s _ _ h) (k.mono s) a) .nil (λ_ _ a b=> .cons a b) h
theorem DvAll.ind{p:List V->List D->Prop}(n:p [] [])(c:∀{v:V}{vs:List V}{d:D}{ds:List D},Dv Z H v d->DvAll Z H vs ds->p vs ds->p (v::vs) (d::ds)){vs:List V}{ds:List D}(h:DvAll Z H vs ds):p vs ds:=
 DvAll.rec (motive_1:=λ_ _ _=>True) (motive_2:=λvs ds _=>p vs ds) trivial (λ_=>trivial) (λ_=>trivial) (λ_ _=>trivial) (λ_ _ _=>trivial) (λ_ _ _=>trivial) (λ_=>trivial) (λ_=>trivial) (λ_ _=>trivial) (λ_ _ _ _ _ _=>trivial) (λ_=>trivial) (λ_ _=>trivial) (λ_ _ _ _=>trivial) n (λa b _ q=>c a b q) h
theorem DvAll.mono(s:aK H H'){vs:List V}{ds:List D}(h:DvAll Z H vs ds):DvAll Z H' vs ds:=h.ind .nil λa _ b=> .cons (a.mono s) b
theorem DvAll.length{vs:List V}{ds:List D}(h:DvAll Z H vs ds):vs.length=ds.length:=h.ind (p:=λvs ds=>vs.length=ds.length) rfl λ_ _ e=>congrArg (·+1) e
theorem DvAll.get{vs:List V}{ds:List D}{i:Nat}{d:D}(h:DvAll Z H vs ds)(e:ds[i]? =some d):∃v,vs[i]? =some v/\Dv Z H v d:=by
 revert i
 refine h.ind (p:=λvs ds=>∀{i:Nat},ds[i]? =some d->∃v,vs[i]? =some v/\Dv Z H v d) (λe=>by cases e) λa _ ih i e=>?_
 cases i with
 |zero=>cases e;exact⟨_,rfl,a⟩
 |succ i=>exact ih e
theorem DvAll.xH{vs:List V}{ds:List D}{i:Nat}{v:V}(h:DvAll Z H vs ds)(e:vs[i]? =some v):∃d,ds[i]? =some d/\Dv Z H v d:=by
 revert i
 refine h.ind (p:=λvs ds=>∀{i:Nat},vs[i]? =some v->∃d,ds[i]? =some d/\Dv Z H v d) (λe=>by cases e) λa _ ih i e=>?_
 cases i with
 |zero=>cases e;exact⟨_,rfl,a⟩
 |succ i=>exact ih e
theorem DvAll.append{vs us:List V}{ds es:List D}(h:DvAll Z H vs ds)(k:DvAll Z H us es):DvAll Z H (vs++us) (ds++es):=h.ind (p:=λvs ds=>DvAll Z H (vs++us) (ds++es)) k λa _ b=> .cons a b
theorem DvAll.take:∀{vs:List V}{ds:List D}(n:Nat),DvAll Z H vs ds->DvAll Z H (vs.take n) (ds.take n)
 |_,_,0,_=>DvAll.nil
 |_,_,n+1, .nil=>DvAll.nil
 |_,_,n+1, .cons a as=>DvAll.cons a (as.take n)
theorem DvAll.drop:∀{vs:List V}{ds:List D}(n:Nat),DvAll Z H vs ds->DvAll Z H (vs.drop n) (ds.drop n)
 |_,_,0,h=>h
 |_,_,n+1, .nil=>by simpa using DvAll.nil
 |_,_,n+1, .cons a as=>by simpa using as.drop n
theorem DvAll.set{v:V}{d:D}(h:Dv Z H v d):∀{vs:List V}{ds:List D}(n:Nat),DvAll Z H vs ds->DvAll Z H (vs.set n v) (ds.set n d)
 |_,_,_, .nil=> .nil
 |_,_,0, .cons a as=> .cons h as
 |_,_,n+1, .cons a as=> .cons a (DvAll.set h n as)
theorem DvAll.rev:∀{vs:List V}{ds:List D},DvAll Z H vs ds->DvAll Z H vs.reverse ds.reverse
 |_,_, .nil=> .nil
 |_,_, .cons a as=>by
  rw[List.reverse_cons,List.reverse_cons];exact as.rev.append (.cons a .nil)
theorem DvAll.ints:∀(ns:List Int),DvAll Z H (ns.map V.int) (ns.map D.int)
 | []=> .nil
 |n::ns=> .cons (.int n) (DvAll.ints ns)
theorem DvAll.snoc{vs:List V}{ds:List D}{v:V}{d:D}(a:DvAll Z H vs ds)(b:Dv Z H v d):DvAll Z H (vs++ [v]) (ds++ [d]):=a.append (.cons b .nil)
structure Ext (G H G' H':Hp):Prop where
 gg:aK G G'
 sub:aK G' H'
 hh:aK H H'
 off:∀b,H b≠none->G b=none->G' b=none
theorem Ext.refl(s:aK G H):Ext G H G H:=⟨.refl _,s, .refl _,λ_ _ h=>h⟩
theorem Ext.trans{G1 H1 G2 H2:Hp}(a:Ext G H G1 H1)(b:Ext G1 H1 G2 H2):Ext G H G2 H2:=
 ⟨a.gg.trans b.gg,b.sub,a.hh.trans b.hh,λx h g=>b.off x (λz=>by
  cases e:H x with
  |none=>exact h e
  |some o=>rw[a.hh x o e] at z;cases z) (a.off x h g)⟩
theorem Ext.new{p:Addr}{o:HO}(s:aK G H)(h:H p=none):Ext G H (upd G p o) (upd H p o):=by
 have hg:G p=none:=s.free h;refine⟨aW hg o,λb u e=>?_,aW h o,λb hb hg=>?_⟩
 ·by_cases z:b=p
  ·subst z;rw[av] at e ⊢;exact e
  ·rw[aw z] at e ⊢;exact s b u e
 ·have:b≠p:=λz=>hb (by rw[z];exact h)
  rw[aw this];exact hg
end
abbrev DN:=List (Option D)
structure dk (Z:DC) (G:Hp) (σ:St) (ρ:DN):Prop where
 len:ρ.length=σ.length
 at_:∀(i:Nat)(d:D),ρ[i]? =some (some d)->∃v,σ[i]? =some (some v)/\Dv Z G v d
section
variable {Z:DC} {G G' H H':Hp} {σ:St} {ρ:DN}
theorem dk.mono(e:dk Z G σ ρ)(s:aK G G'):dk Z G' σ ρ:=⟨e.len,λi d h=>let ⟨v,a,b⟩:=e.at_ i d h;⟨v,a,b.mono s⟩⟩
theorem dk.set{i:Nat}{v:V}{d:D}(e:dk Z G σ ρ)(h:Dv Z G v d):dk Z G (σ.set i (some v)) (ρ.set i (some d)):=by
 refine⟨by rw[dB,dB];exact e.len,λj c hj=>?_⟩
 by_cases z:i=j
 ·subst z
  by_cases hi:i<ρ.length
  ·rw[iH hi] at hj
   cases Option.some.inj hj;exact⟨v,by rw[iH (e.len▸hi)],h⟩
  ·rw[wd (gL hi)] at hj
   rw[fi (gL hi)] at hj;cases hj
 ·rw[jv z] at hj ⊢
  exact e.at_ j c hj
end
abbrev bg:=DN->(D->Prop)->Prop
abbrev dS:=DN->(Bool->Prop)->Prop
abbrev gn:=DN->(List D->Prop)->Prop
abbrev gm:=D->D->(D->Prop)->Prop
abbrev eO:=D->DN->(DN->Prop)->Prop
abbrev g5:=DN->(List D->Prop)->Prop
def dY(Z:DC)(t:bg):TE:=λσ H Q=>∃(G:Hp)(ρ:DN)(P:D->Prop),aK G H/\dk Z G σ ρ/\t ρ P/\∀d,P d->∀v G' H',Ext G H G' H'->Dv Z G' v d->Q v H'
def liftT(Z:DC)(t:dS):TT:=λσ H Q=>∃(G:Hp)(ρ:DN)(P:Bool->Prop),aK G H/\dk Z G σ ρ/\t ρ P/\∀b,P b->∀G' H',Ext G H G' H'->Q b H'
def CD(Z:DC)(t:gn):TA:=λσ H Q=>∃(G:Hp)(ρ:DN)(P:List D->Prop),aK G H/\dk Z G σ ρ/\t ρ P/\∀ds,P ds->∀vs G' H',Ext G H G' H'->DvAll Z G' vs ds->Q vs H'
def bV(Z:DC)(r:gm):R2:=λx y H Q=>∃(G:Hp)(a b:D)(P:D->Prop),aK G H/\Dv Z G x a/\Dv Z G y b/\r a b P/\∀d,P d->∀v G' H',Ext G H G' H'->Dv Z G' v d->Q v H'
def lb(Z:DC)(r:List D->(D->Prop)->Prop):List V->Hp->VK->Prop:=λvs H Q=>∃(G:Hp)(ds:List D)(P:D->Prop),aK G H/\DvAll Z G vs ds/\r ds P/\∀d,P d->∀v G' H',Ext G H G' H'->Dv Z G' v d->Q v H'
abbrev b9:=List D->(D->Prop)->Prop
def aM(Z:DC)(sd:b9):Sp:=λvs H Q _=>lb Z sd vs H Q
def DE(Z:DC)(X:Cx)(e:Expr)(t:bg):Prop:=PE X e (dY Z t)
def DT(Z:DC)(X:Cx)(e:Expr)(t:dS):Prop:=PT X e (liftT Z t)
def DA(Z:DC)(X:Cx)(es:List Expr)(t:gn):Prop:=PA X es (CD Z t)
theorem PE.imp{X:Cx}{e:Expr}{t t':TE}(h:PE X e t)(f:∀σ H Q,t' σ H Q->t σ H Q):PE X e t':=λpins s σ H Q I q=>h pins s σ H Q I (f _ _ _ q)
theorem PT.imp{X:Cx}{e:Expr}{t t':TT}(h:PT X e t)(f:∀σ H Q,t' σ H Q->t σ H Q):PT X e t':=λpins s σ H Q I q=>h pins s σ H Q I (f _ _ _ q)
theorem PW.imp{X:Cx}{e:Expr}{t t':TT}(h:PW X e t)(f:∀σ H Q,t' σ H Q->t σ H Q):PW X e t':=λwh pins s σ H Q I q=>h wh pins s σ H Q I (f _ _ _ q)
theorem PA.imp{X:Cx}{es:List Expr}{t t':TA}(h:PA X es t)(f:∀σ H Q,t' σ H Q->t σ H Q):PA X es t':=λpos pins s σ H Q I q=>h pos pins s σ H Q I (f _ _ _ q)
theorem OpR.imp{X:Cx}{f:Value->Value->Sem Value}{r r':R2}(h:OpR X f r)(g:∀x y H Q,r' x y H Q->r x y H Q):OpR X f r':=λpins s σ H x y v u Q I a b q=>h pins s σ H x y v u Q I a b (g _ _ _ _ q)
theorem eM.imp{X:Cx}{f:Value}{r r':List V->Hp->VK->Prop}(h:eM X f r)(g:∀xs H Q,r' xs H Q->r xs H Q):eM X f r':=λpins s σ H xs us Q I a q=>h pins s σ H xs us Q I a (g _ _ _ q)
def Ai(i:Nat):bg:=λρ P=>∃d,ρ[i]? =some (some d)/\P d
def dC(d:D):bg:=λ_ P=>P d
section
variable {Z:DC} {X:Cx}
theorem aa(i:Nat){x:Str}{pos:Pos}(hN:X.N[i]? =some x:=by rfl)(hv:kT X.env.scope x:=by first|exact Or.inl rfl|exact Or.inr (Or.inl rfl) |exact Or.inr (Or.inr rfl))(hd:(x==("__debug__":Str))=false:=by decide)
  (dG:(x==("__classdict__":Str))=false:=by decide):DE Z X (.Name x pos) (Ai i):=by
 refine(zC hN hv hd dG).imp λσ H Q gX=>?_;rfl';obtain⟨G,ρ,P,s,e,⟨d,hd,p⟩,q⟩:=gX;ac_rfl;exact let ⟨v,hv,dv⟩:=e.at_ i d hd;⟨v,hv,q d p v G H (.refl s) dv⟩
theorem ai{i j pos}:DE Z X (.Constant (.int i) j pos) (dC (.int i)):=by
 refine LK.imp λσ H Q gX=>?_;rfl';obtain⟨G,ρ,P,s,e,p,q⟩:=gX;ac_rfl;exact q _ p _ G H (.refl s) (.int i)
theorem jS{b j pos}:DE Z X (.Constant (.bool b) j pos) (dC (.bl b)):=by
 refine Qk.imp λσ H Q gX=>?_;rfl';obtain⟨G,ρ,P,s,e,p,q⟩:=gX;ac_rfl;exact q _ p _ G H (.refl s) (.bl b)
theorem fg{j pos}:DE Z X (.Constant .none j pos) (dC .bb):=by
 refine LM.imp λσ H Q gX=>?_;rfl';obtain⟨G,ρ,P,s,e,p,q⟩:=gX;ac_rfl;exact q _ p _ G H (.refl s) .bb
theorem iM{x j pos}(h:PyData.strOk x=true:=by decide+kernel):DE Z X (.Constant (.str x) j pos) (dC (.str x)):=by
 refine LP.imp λσ H Q gX=>?_;rfl';obtain⟨G,ρ,P,s,e,p,q⟩:=gX;ac_rfl;exact q _ p _ G H (.refl s) (.str x h)
theorem xi{x:Str}{i:Int}{pos:Pos}(hg:Gl X x)(hm:∃tk,X.mg x=some (.int i tk))(hd:(x==("__debug__":Str))=false:=by decide):DE Z X (.Name x pos) (dC (.int i)):=by
 obtain⟨tk,hm⟩:=hm;exact(IL hg hm (v:= .int i) ⟨tk,rfl⟩ hd).imp λσ H Q ⟨G,ρ,P,s,e,p,q⟩=>q _ p _ G H (.refl s) (.int i)
def Ag(r:gm)(ta tb:bg):bg:=λρ P=>ta ρ λa=>tb ρ λb=>r a b P
variable {a b c:Expr} {ta tb tc:bg} {pos:Pos}
theorem zi{r:gm}:∀σ H Q,dY Z (Ag r ta tb) σ H Q->JR (bV Z r) (dY Z ta) (dY Z tb) σ H Q:=by
 intro σ H Q aJ;rfl';obtain⟨G,ρ,P,s,e,h,q⟩:=aJ;ac_rfl;refine⟨G,ρ,_,s,e,h,λa ha v G1 H1 x1 dv=>?_⟩;refine⟨G1,ρ,_,x1.sub,e.mono x1.gg,ha,λb hb u G2 H2 x2 du=>?_⟩;exact⟨G2,a,b,P,x2.sub,dv.mono x2.gg,du,hb,λd hd v' G' H' x3 jT=>q d hd v' G' H' ((x1.trans x2).trans x3) jT⟩
theorem ax{op:Operator}{r:gm}(ho:OpR X (binaryOp op) (bV Z r))(ha:DE Z X a ta)(hb:DE Z X b tb):DE Z X (.BinOp a op b pos) (Ag r ta tb):=(CZ ho ha hb).imp zi
theorem tY{op:CmpOp}{r:gm}(ho:OpR X (compareOp op) (bV Z r))(ha:DE Z X a ta)(hb:DE Z X b tb)(hm:behindInMarks op b=false):DE Z X (.Compare a [op] [b] pos) (Ag r ta tb):=(IK ho ha hb hm).imp zi
def B3(t:bg):dS:=λρ P=>t ρ λd=>∃k,d= .bl k/\P k
theorem xU{t:bg}:∀σ H Q,liftT Z (B3 t) σ H Q->Dq (dY Z t) σ H Q:=by
 intro σ H Q aJ;rfl';obtain⟨G,ρ,P,s,e,h,q⟩:=aJ;ac_rfl;refine⟨G,ρ,_,s,e,h,?_⟩;rintro _ ⟨k,rfl,p⟩ v G1 H1 x1 dv;cases dv.Eu;exact⟨k,rfl,q k p G1 H1 x1⟩
theorem aS{op:CmpOp}{r:gm}(ho:OpR X (compareOp op) (bV Z r))(ha:DE Z X a ta)(hb:DE Z X b tb)(hm:behindInMarks op b=false):DT Z X (.Compare a [op] [b] pos) (B3 (Ag r ta tb)):=
 (Jd ho ha hb hm).imp λσ H Q h=>by
  obtain h:=xU σ H Q h;exact zi σ H _ h
def yQ(r r':gm)(ta tb tc:bg):bg:=λρ P=>ta ρ λx=>tb ρ λy=>r x y λz=>∃k,z= .bl k/\(if k=true then tc ρ λw'=>r' y w' P else P (.bl false))
theorem vg{r r':gm}:∀σ H Q,dY Z (yQ r r' ta tb tc) σ H Q->zL (bV Z r) (bV Z r') (dY Z ta) (dY Z tb) (dY Z tc) σ H Q:=by
 intro σ H Q aJ;rfl';obtain⟨G,ρ,P,s,e,h,q⟩:=aJ;ac_rfl;refine⟨G,ρ,_,s,e,h,λa ha v G1 H1 x1 dv=>?_⟩;refine⟨G1,ρ,_,x1.sub,e.mono x1.gg,ha,λb hb u G2 H2 x2 du=>?_⟩;refine⟨G2,a,b,_,x2.sub,dv.mono x2.gg,du,hb,?_⟩;rintro _ ⟨k,rfl,hk⟩ v' G3 H3 x3 jT;cases jT.Eu;refine⟨k,rfl,?_⟩;have x:=(x1.trans x2).trans x3;cases k with
 |false=>exact cv (q _ hk _ G3 H3 x (.bl false))
 |true=>
  refine dr ⟨G3,ρ,_,x3.sub,e.mono x.gg,hk,λc hc w' G4 H4 x4 dw=>?_⟩;exact⟨G4,b,c,P,x4.sub,(du.mono x3.gg).mono x4.gg,dw,hc,λd hd v'' G' H' x5 d5=>q d hd v'' G' H' ((x.trans x4).trans x5) d5⟩
theorem E2{op pz:CmpOp}{r r':gm}(ho:OpR X (compareOp op) (bV Z r))(g7:OpR X (compareOp pz) (bV Z r'))(ha:DE Z X a ta)(hb:DE Z X b tb)(hc:DE Z X c tc)
  (hm:lastMarks [op,pz] [b,c]=false:=by with_unfolding_all rfl):DE Z X (.Compare a [op,pz] [b,c] pos) (yQ r r' ta tb tc):=(FI ho g7 ha hb hc hm).imp vg
theorem E6{op pz:CmpOp}{r r':gm}(ho:OpR X (compareOp op) (bV Z r))(g7:OpR X (compareOp pz) (bV Z r'))(ha:DE Z X a ta)(hb:DE Z X b tb)(hc:DE Z X c tc)
  (hm:lastMarks [op,pz] [b,c]=false:=by with_unfolding_all rfl):DT Z X (.Compare a [op,pz] [b,c] pos) (B3 (yQ r r' ta tb tc)):=
 (FT ho g7 ha hb hc hm).imp λσ H Q h=>by
  obtain h:=xU σ H Q h;exact vg σ H _ h
def sU:D->Bool
 | .bb=>false
 | .bl b=>b
 | .int i=>i !=0
 | .str x=>x.length !=0
 | .lst l=>!l.isEmpty
 | .tup l=>!l.isEmpty
 | .mm l=>!l.isEmpty
 | .rng lo hi=>decide (lo<hi)
 | .obj _=>true
 | .dA _=>true
 | .set _ l=>!l.isEmpty
 | .x _=>true
 | .err _ _ _=>true
def NB:D->Bool
 | .bl _=>true
 | .int _=>true
 | .lst _=>true
 | .tup _=>true
 | .bb=>true
 |_=>false
def SQ(t:bg):dS:=λρ P=>t ρ λd=>NB d=true/\P (sU d)
theorem sF{G:Hp}{vs:List V}{ds:List D}(h:DvAll Z G vs ds):vs.isEmpty=ds.isEmpty:=by cases h<;>rfl
theorem gY(ha:DE Z X a ta)(he:∀whole,isTrue a X.env whole=(do let v <-whole;standAt a.pos;holding [v] (truthy v)):=by intro _;rfl):DT Z X a (SQ ta):=by
 refine(FU ha he).imp ?_;intro σ H Q aJ;rfl';obtain⟨G,ρ,P,s,e,h,q⟩:=aJ;ac_rfl;refine⟨G,ρ,_,s,e,h,?_⟩;rintro d ⟨hd,p⟩ v G1 H1 x1 dv;refine⟨sU d,?_,q _ p G1 H1 x1⟩;cases dv with
 |bb=>rfl
 |bl b=>rfl
 |int i=>rfl
 |lst h a=>exact .inl ⟨_,bU.of (x1.sub _ _ h),by rw[sF a];rfl⟩
 |tup h a=>exact .inr (.inl ⟨_,gq.of (x1.sub _ _ h),by rw[sF a];rfl⟩)
 |_=>cases hd
def Sy(t u:dS):dS:=λρ P=>t ρ λc=>if c=true then u ρ P else P false
def Z8(t u:dS):dS:=λρ P=>t ρ λc=>if c=true then P true else u ρ P
def SJ(t:dS):dS:=λρ P=>t ρ λc=>P (!c)
variable {tA zK:dS} {rest:List Expr}
def DW(Z:DC)(X:Cx)(e:Expr)(t:dS):Prop:=PW X e (liftT Z t)
theorem DW.dt{e:Expr}{t:dS}(h:DW Z X e t):DT Z X e t:=PW.pt h
theorem qa(ha:DT Z X a tA):DW Z X (.BoolOp .And [a] pos) tA:=Jh ha
theorem t7(ha:DT Z X a tA):DW Z X (.BoolOp .Or [a] pos) tA:=L0 ha
theorem t6(ha:DT Z X a tA)(hb:DW Z X (.BoolOp .And (b::rest) pos) zK):DW Z X (.BoolOp .And (a::b::rest) pos) (Sy tA zK):=by
 refine(LZ ha hb).imp ?_;intro σ H Q aJ;rfl';obtain⟨G,ρ,P,s,e,h,q⟩:=aJ;ac_rfl;refine⟨G,ρ,_,s,e,h,λc hc G1 H1 x1=>?_⟩;cases c with
 |true=>exact dr ⟨G1,ρ,P,x1.sub,e.mono x1.gg,hc,λb hb G2 H2 x2=>q b hb G2 H2 (x1.trans x2)⟩
 |false=>exact cv (q _ hc G1 H1 x1)
theorem uM(ha:DT Z X a tA)(hb:DW Z X (.BoolOp .Or (b::rest) pos) zK):DW Z X (.BoolOp .Or (a::b::rest) pos) (Z8 tA zK):=by
 refine(Qm ha hb).imp ?_;intro σ H Q aJ;rfl';obtain⟨G,ρ,P,s,e,h,q⟩:=aJ;ac_rfl;refine⟨G,ρ,_,s,e,h,λc hc G1 H1 x1=>?_⟩;cases c with
 |false=>exact cv ⟨G1,ρ,P,x1.sub,e.mono x1.gg,hc,λb hb G2 H2 x2=>q b hb G2 H2 (x1.trans x2)⟩
 |true=>exact dr (q _ hc G1 H1 x1)
theorem jD(ha:DT Z X a tA):DT Z X (.UnaryOp .Not a pos) (SJ tA):=by
 refine(LY ha).imp ?_;rintro σ H Q ⟨G,ρ,P,s,e,h,q⟩;exact⟨G,ρ,_,s,e,h,λc hc G1 H1 x1=>q _ hc G1 H1 x1⟩
def OH(ta tb:bg):bg:=λρ P=>ta ρ λx=>∃c,x= .bl c/\if c=true then tb ρ P else P (.bl false)
def OP(ta:bg):bg:=λρ P=>ta ρ λx=>∃c,x= .bl c/\P (.bl (!c))
theorem yT{op}(h:DE Z X a ta):DE Z X (.BoolOp op [a] pos) ta:=LO h
theorem pT(ha:DE Z X a ta)(hb:DE Z X (.BoolOp .And (b::rest) pos) tb):DE Z X (.BoolOp .And (a::b::rest) pos) (OH ta tb):=by
 refine(LG ha hb).imp ?_;intro σ H Q aJ;rfl';obtain⟨G,ρ,P,s,e,h,q⟩:=aJ;ac_rfl;refine⟨G,ρ,_,s,e,h,?_⟩;rintro _ ⟨c,rfl,hc⟩ v G1 H1 x1 dv;cases dv.Eu;refine⟨c,rfl,?_⟩;cases c with
 |true=>exact dr ⟨G1,ρ,P,x1.sub,e.mono x1.gg,hc,λb hb v G2 H2 x2 d2=>q b hb v G2 H2 (x1.trans x2) d2⟩
 |false=>exact cv (q _ hc _ G1 H1 x1 (.bl false))
theorem Kv(ha:DE Z X a ta):DE Z X (.UnaryOp .Not a pos) (OP ta):=by
 refine(LN ha).imp ?_;intro σ H Q aJ;rfl';obtain⟨G,ρ,P,s,e,h,q⟩:=aJ;ac_rfl;refine⟨G,ρ,_,s,e,h,?_⟩;rintro _ ⟨c,rfl,hc⟩ v G1 H1 x1 dv;cases dv.Eu;exact⟨c,rfl,q _ hc _ G1 H1 x1 (.bl _)⟩
def cZ:gn:=λ_ P=>P []
def jc(ta:bg)(t:gn):gn:=λρ P=>ta ρ λx=>t ρ λxs=>P (x::xs)
variable {es:List Expr} {t:gn} {e:Expr}
theorem ae:DA Z X [] cZ:=by
 refine fU.imp λσ H Q gX=>?_;rfl';obtain⟨G,ρ,P,s,e,p,q⟩:=gX;ac_rfl;exact q _ p _ G H (.refl s) .nil
theorem ab(ha:DE Z X e ta)(hr:DA Z X es t)(hs:starEach (e::es) X.env=(false,eval e X.env)::starEach es X.env:=by rfl):DA Z X (e::es) (jc ta t):=by
 refine(cS ha hr hs).imp ?_;intro σ H Q aJ;rfl';obtain⟨G,ρ,P,s,e,h,q⟩:=aJ;ac_rfl;refine⟨G,ρ,_,s,e,h,λa ha v G1 H1 x1 dv=>?_⟩;exact⟨G1,ρ,_,x1.sub,e.mono x1.gg,ha,λds hd vs G2 H2 x2 bw=>q _ hd _ G2 H2 (x1.trans x2) (.cons (dv.mono x2.gg) bw)⟩
def SR(t:gn):bg:=λρ P=>t ρ λxs=>xs.length<=sizeLine/\P (.tup xs)
def Ng(t:gn):bg:=λρ P=>t ρ λxs=>xs.length<=sizeLine/\P (.lst xs)
theorem fE{x1}(h:DA Z X es t):DE Z X (.Tuple es x1 pos) (SR t):=by
 refine(LQ h).imp ?_;intro σ H Q aJ;rfl';obtain⟨G,ρ,P,s,e,h,q⟩:=aJ;ac_rfl;refine⟨G,ρ,_,s,e,h,?_⟩;rintro ds ⟨hl,hp⟩ vs G1 H1 x1 bw;exact⟨by rw[bw.length];exact hl,λp kv=>q _ hp _ _ _ (x1.trans (.new x1.sub kv)) (.tup av (bw.mono (aW (x1.sub.free kv) _)))⟩
theorem bG(h:DA Z X es t):DE Z X (.List es pos) (Ng t):=by
 refine(qy h).imp ?_;intro σ H Q aJ;rfl';obtain⟨G,ρ,P,s,e,h,q⟩:=aJ;ac_rfl;refine⟨G,ρ,_,s,e,h,?_⟩;rintro ds ⟨hl,hp⟩ vs G1 H1 x1 bw;exact⟨by rw[bw.length];exact hl,λp kv=>q _ hp _ _ _ (x1.trans (.new x1.sub kv)) (.lst av (bw.mono (aW (x1.sub.free kv) _)))⟩
def mE(r:List D->(D->Prop)->Prop)(t:gn):bg:=λρ P=>t ρ λds=>r ds P
theorem rN{r:List D->(D->Prop)->Prop}:∀σ H Q,dY Z (mE r t) σ H Q->CD Z t σ H λvs H1=>lb Z r vs H1 Q:=by
 intro σ H Q aJ;rfl';obtain⟨G,ρ,P,s,e,h,q⟩:=aJ;ac_rfl;exact⟨G,ρ,_,s,e,h,λds hd vs G1 H1 x1 bw=>⟨G1,ds,P,x1.sub,bw,hd,λd hp v G2 H2 x2 dv=>q d hp v G2 H2 (x1.trans x2) dv⟩⟩
theorem GY{sd:b9}{k:Nat}{f:Addr}{fd:FuncData}{ps:List Str}{x:Str}{p:Pos}(F:FnOk X.prog X.w X.K X.mg X.base bQ k f fd ps (aM Z sd))(hr:cn k X.A)(hg:Gl X x)(hm:X.mg x=some (.ref f))(hk:PySem.W.keepIn X.K (.ref f)=true)(hb:Binds X.K fd ps [])
  (ha:DA Z X (e::es) t) (ij:(x==("__debug__":Str))=false:=by decide) (he:starEach (e::es) X.env=(false,eval e X.env)::starEach es X.env:=by rfl) (eG:(backTo pos (starEach es X.env)).any (·.1)=false:=by rfl):
  DE Z X (.Call (.Name x p) (e::es) [] pos) (mE sd t):=
 (qx F hr hg hm hk hb .nil pC ha ij he eG).imp λσ H Q h=>by
  rfl';have h:=rN σ H Q h;obtain⟨G,ρ,P,s,e,h,q⟩:=h;ac_rfl;exact⟨G,ρ,P,s,e,h,λds hd vs G1 H1 x1 bw=>by show aM Z sd (vs++ []) H1 Q E0;rw[kP];exact q ds hd vs G1 H1 x1 bw⟩
theorem aD{id:String}{x:Str}{p:Pos}{r:List D->(D->Prop)->Prop}(hc:eM X (.builtin id) (lb Z r))(hg:Gl X x)(hm:X.mg x=none)(hv:bootBuiltins x=some (.builtin id))(ha:DA Z X (e::es) t)(hn:x≠"__name__":=by decide)(ij:(x==("__debug__":Str))=false:=by decide)
  (he:starEach (e::es) X.env=(false,eval e X.env)::starEach es X.env:=by rfl) (eG:(backTo pos (starEach es X.env)).any (·.1)=false:=by rfl):
  DE Z X (.Call (.Name x p) (e::es) [] pos) (mE r t):=(rV hc hg hm hv ha hn ij he eG).imp rN
theorem oR{T:String}{x:Str}{p:Pos}{r:List D->(D->Prop)->Prop}(hc:eM X (.type T) (lb Z r))(hg:Gl X x)(hm:X.mg x=none)(hv:bootBuiltins x=some (.type T))(ha:DA Z X (e::es) t)(hn:x≠"__name__":=by decide)(ij:(x==("__debug__":Str))=false:=by decide)
  (he:starEach (e::es) X.env=(false,eval e X.env)::starEach es X.env:=by rfl) (eG:(backTo pos (starEach es X.env)).any (·.1)=false:=by rfl):
  DE Z X (.Call (.Name x p) (e::es) [] pos) (mE r t):=(CY hc hg hm hv ha hn ij he eG).imp rN
end
end L2
namespace L2
open PySem PySem.Spec PyProof.Rows
section
variable {Z:DC} {X:Cx}
def Na:gm:=λx y P=>match x,y with
 | .int i, .int j=>P (.int (i+j))
 | .lst a, .lst b=>a.length+b.length<=sizeLine/\P (.lst (a++b))
 | .tup a, .tup b=>a≠ []/\a.length+b.length<=sizeLine/\b≠ []/\P (.tup (a++b))
 |_,_=>False
def dI(c:Int->Int->Prop)(g:Int->Int->Int):gm:=λx y P=>match x,y with
 | .int i, .int j=>c i j/\P (.int (g i j))
 |_,_=>False
def Kn(g:Int->Int->Int):gm:=λx y P=>match x,y with
 | .int i, .int j=>P (.int (g i j))
 |_,_=>False
def SO:gm:=Kn λi j=>i-j
def Ni:gm:=λx y P=>match x,y with
 | .int i, .int j=>DQ i j/\P (.int (i*j))
 | .lst a, .int k=> -(2^63)<=k/\k<2^63/\a.length*k.toNat<=sizeLine/\P (.lst (List.replicate k.toNat a).flatten)
 |_,_=>False
def Nb:gm:=dI MB λi j=>i / j
def Nh:gm:=dI (λ_ j=>0<j) λi j=>i%j
def SN:gm:=dI MC λi j=>i^j.toNat
def OI:gm:=Kn Builtin.bitAnd
theorem zk{f:Value->Value->Sem Value}{c:Int->Int->Prop}{g:Int->Int->Int}(h:OpR X f (rI c λi j=> .int (g i j))):OpR X f (bV Z (dI c g)):=by
 refine h.imp ?_;intro x y H Q iB;rfl';obtain⟨G,a,b,P,s,da,db,hr,q⟩:=iB;ac_rfl;unfold dI at hr
 split at hr
 ·exact⟨_,_,da.ofInt,db.ofInt,hr.1,q _ hr.2 _ G H (.refl s) (.int _)⟩
 ·exact hr.elim
theorem Ej{f:Value->Value->Sem Value}{g:Int->Int->Int}(h:OpR X f (wW λi j=> .int (g i j))):OpR X f (bV Z (Kn g)):=by
 refine h.imp ?_;intro x y H Q iB;rfl';obtain⟨G,a,b,P,s,da,db,hr,q⟩:=iB;ac_rfl;unfold Kn at hr
 split at hr
 ·exact⟨_,_,da.ofInt,db.ofInt,q _ hr _ G H (.refl s) (.int _)⟩
 ·exact hr.elim
theorem lh:OpR X (binaryOp .Sub) (bV Z SO):=Ej LF
theorem fS:OpR X (binaryOp .FloorDiv) (bV Z Nb):=zk IE
theorem cV:OpR X (binaryOp .Mod) (bV Z Nh):=zk Lz
theorem Et:OpR X (binaryOp .Pow) (bV Z SN):=zk LC
theorem Iv:OpR X (binaryOp .BitAnd) (bV Z OI):=Ej Lw
theorem aN(e:X.K=Z.K:=by rfl):OpR X (binaryOp .Add) (bV Z Na):=by
 refine(Lv.or (zy.or (ID))).imp ?_;rintro x y H Q ⟨G,a,b,P,s,da,db,hr,q⟩;unfold Na at hr
 split at hr
 ·exact .inl ⟨_,_,da.ofInt,db.ofInt,q _ hr _ G H (.refl s) (.int _)⟩
 ·obtain⟨a1,J2,rfl,h1,e1⟩:=da.jl
  obtain⟨a2,Mv,rfl,h2,e2⟩:=db.jl;obtain⟨hz,hp⟩:=hr;refine .inr (.inl ⟨_,_,_,_,rfl,rfl,s _ _ h1,s _ _ h2,by rw[e1.length,e2.length];exact hz,λp hn=>?_⟩)
  exact q _ hp _ _ _ (.new s hn) (.lst av ((e1.append e2).mono (aW (s.free hn) _)))
 ·obtain⟨a1,J2,rfl,h1,e1⟩:=da.rS
  obtain⟨a2,Mv,rfl,h2,e2⟩:=db.rS;obtain⟨h0,hz,h0',hp⟩:=hr;refine .inr (.inr ⟨_,_,_,_,rfl,rfl,gq.of (s _ _ h1),gq.of (s _ _ h2),?_,by rw[e1.length,e2.length];exact hz,?_⟩)
  ·rintro rfl;cases e1;exact h0 rfl
  ·refine⟨?_,λ_ p hn=>q _ hp _ _ _ (.new s hn) (.tup av ((e1.append e2).mono (aW (s.free hn) _)))⟩
   rintro rfl;cases e2;exact(h0' rfl).elim
 ·exact hr.elim
theorem DvAll.rep{G:Hp}{vs:List V}{ds:List D}(h:DvAll Z G vs ds):∀k:Nat,DvAll Z G (List.replicate k vs).flatten (List.replicate k ds).flatten
 |0=> .nil
 |k+1=>by rw[oK,oK,nN,nN];exact h.append (DvAll.rep h k)
theorem jI:OpR X (binaryOp .Mult) (bV Z Ni):=by
 refine(LA.or LD).imp ?_;intro x y H Q iB;rfl';obtain⟨G,a,b,P,s,da,db,hr,q⟩:=iB;ac_rfl;unfold Ni at hr
 split at hr
 ·exact .inl ⟨_,_,da.ofInt,db.ofInt,hr.1,q _ hr.2 _ G H (.refl s) (.int _)⟩
 ·obtain⟨a1,J2,rfl,h1,e1⟩:=da.jl
  obtain⟨h0,h9,hz,hp⟩:=hr;refine .inr ⟨_,_,_,rfl,db.ofInt,s _ _ h1,h0,h9,by rw[e1.length];exact hz,λp hn=>?_⟩
  exact q _ hp _ _ _ (.new s hn) (.lst av ((e1.rep _).mono (aW (s.free hn) _)))
 ·exact hr.elim
mutual
def D.py:D->Option PyData
 | .bb=>some .none
 | .bl b=>some (.bool b)
 | .int i=>some (.int i)
 | .str x=>some (.str x)
 | .lst l=>(gD l).map PyData.list
 | .tup l=>(gD l).map PyData.tuple
 | .mm _=>none
 | .rng _ _=>none
 | .obj _=>none
 | .dA _=>none
 | .set _ _=>none
 | .x _=>none
 | .err _ _ _=>none
def gD:List D->Option (List PyData)
 | []=>some []
 |d::ds=>(D.py d).bind λa=>(gD ds).map λas=>a::as
end
theorem Dv.dp{K:PySem.W.Frag}{G:Hp}{v:V}{d:D}(h:Dv Z G v d):∀{e:PyData},d.py=some e->Dp K G v e:=by
 refine Dv.rec (motive_1:=λv d _=>∀{e:PyData},d.py=some e->Dp K G v e) (motive_2:=λvs ds _=>∀{es:List PyData},gD ds=some es->ie K G vs es) ?_ ?_ ?_ ?_ ?_ ?_ ?_ ?_ ?_ ?_ ?_ ?_ ?_ ?_ ?_ h
 ·intro e h;rw[D.py] at h;cases h;exact .bb
 ·intro b e h;rw[D.py] at h;cases h;exact .bl b
 ·intro i e h;rw[D.py] at h;cases h;exact .int i
 ·intro x k e h;rw[D.py] at h;cases h;exact .str x k
 ·intro a xs ds q _ ih e h
  rw[D.py] at h;cases h1:gD ds with
  |none=>rw[h1] at h;cases h
  |some l=>rw[h1] at h;cases h;exact .lst (bU.of q) (ih h1)
 ·intro a xs ds q _ ih e h
  rw[D.py] at h;cases h1:gD ds with
  |none=>rw[h1] at h;cases h
  |some l=>rw[h1] at h;cases h;exact .tup (gq.of q) (ih h1)
 ·intro a e h;simp[D.py] at h
 ·intro a lo hi _ e h;simp[D.py] at h
 ·intro a ns _ _ e h;simp[D.py] at h
 ·intro p dx R w _ _ _ _ _ _ e h;simp[D.py] at h
 ·intro a b ns _ e h;simp[D.py] at h
 ·intro a φ k _ _ e h;simp[D.py] at h
 ·intro a C od ks xs ds _ _ _ _ e h;simp[D.py] at h
 ·intro es h;rw[gD] at h;cases h;exact .nil
 ·intro v vs d ds _ _ i1 i2 es h
  rw[gD] at h;cases h1:d.py with
  |none=>rw[h1] at h;cases h
  |some x=>
   rw[h1] at h;cases h2:gD ds with
   |none=>rw[h2] at h;cases h
   |some y=>rw[h2] at h;cases h;exact .cons (i1 h1) (i2 h2)
theorem gq.mono{K:PySem.W.Frag}{H H':Hp}{a:Addr}{xs:List V}(s:aK H H')(h:gq K H a xs):gq K H' a xs:=by
 rcases h with (h| ⟨o,h⟩) |h
 ·exact .inl (.inl (s _ _ h))
 ·exact .inl (.inr ⟨o,s _ _ h⟩)
 ·exact .inr h
theorem Dp.mono{K:PySem.W.Frag}{G H:Hp}(s:aK G H){v:V}{d:PyData}(h:Dp K G v d):Dp K H v d:=
 Dp.rec (motive_1:=λv d _=>Dp K H v d) (motive_2:=λvs ds _=>ie K H vs ds) .bb .bl .int .str (λh _ a=> .lst (h.mono s) a) (λh _ a=> .tup (h.mono s) a) .nil (λ_ _ a b=> .cons a b) h
def Nc(neg:Bool):gm:=λx y P=>∃a b,x.py=some a/\y.py=some b/\a.depth<=64/\P (.bl (if neg then !PyData.eqv a b else PyData.eqv a b))
abbrev GR:gm:=Nc false
abbrev B2:gm:=Nc true
theorem il(hu:X.A.units+64<cLine):OpR X (compareOp .Eq) (bV Z GR):=by
 refine(Lx hu).imp ?_;intro x y H Q iB;rfl';obtain⟨G,a,b,P,s,da,db,⟨c,d,h1,h2,h3,hp⟩,q⟩:=iB;ac_rfl;exact⟨c,d,(da.dp h1).mono s,(db.dp h2).mono s,h3,q _ hp _ G H (.refl s) (.bl _)⟩
theorem rQ(hu:X.A.units+64<cLine):OpR X (compareOp .NotEq) (bV Z B2):=by
 refine(LB hu).imp ?_;intro x y H Q iB;rfl';obtain⟨G,a,b,P,s,da,db,⟨c,d,h1,h2,h3,hp⟩,q⟩:=iB;ac_rfl;exact⟨c,d,(da.dp h1).mono s,(db.dp h2).mono s,h3,q _ hp _ G H (.refl s) (.bl _)⟩
theorem Af{i j:Int}{P:D->Prop}(h:P (.bl (decide (i=j)))):GR (.int i) (.int j) P:=⟨.int i, .int j,rfl,rfl,by simp[PyData.depth],by
 have:PyData.eqv (.int i) (.int j)=decide (i=j):=by
  rw[PyData.eqv]
  by_cases z:i=j<;>simp[z]
 simpa [this] using h⟩
theorem uE{i j:Int}{P:D->Prop}(h:P (.bl (!decide (i=j)))):B2 (.int i) (.int j) P:=⟨.int i, .int j,rfl,rfl,by simp[PyData.depth],by
 have:PyData.eqv (.int i) (.int j)=decide (i=j):=by
  rw[PyData.eqv]
  by_cases z:i=j<;>simp[z]
 simpa [this] using h⟩
def Ae(p:Int->Int->Bool):gm:=λx y P=>match x,y with
 | .int i, .int j=>P (.bl (p i j))
 |_,_=>False
theorem vh{f:Value->Value->Sem Value}{p:Int->Int->Bool}(h:OpR X f (wW λi j=> .bl (p i j))):OpR X f (bV Z (Ae p)):=by
 refine h.imp ?_;intro x y H Q iB;rfl';obtain⟨G,a,b,P,s,da,db,hr,q⟩:=iB;ac_rfl;unfold Ae at hr
 split at hr
 ·exact⟨_,_,da.ofInt,db.ofInt,q _ hr _ G H (.refl s) (.bl _)⟩
 ·exact hr.elim
end
end L2
namespace L2
open PySem PySem.Spec PyProof.Rows
section
variable {Z:DC} {X:Cx}
abbrev Z7:gm:=Ae λi j=>decide (i<j)
abbrev Z6:gm:=Ae λi j=>decide (i<=j)
abbrev Z5:gm:=Ae λi j=>decide (j<i)
theorem zr:OpR X (compareOp .Lt) (bV Z Z7):=vh Qh
theorem vw:OpR X (compareOp .LtE) (bV Z Z6):=vh Qg
theorem vq:OpR X (compareOp .Gt) (bV Z Z5):=vh Qf
def zf:D->Bool
 | .bb=>true
 |_=>false
def Nf(neg:Bool):gm:=λx y P=>match y with
 | .bb=>P (.bl (if neg then !zf x else zf x))
 |_=>False
theorem xK{G:Hp}{v:V}{d:D}(h:Dv Z G v d):decide (v= .bb)=zf d:=by cases h<;>rfl
theorem vv:OpR X (compareOp .Is) (bV Z (Nf false)):=by
 refine Ly.imp ?_;rintro x y H Q ⟨G,a,b,P,s,da,db,hr,q⟩;cases db<;>first|exact hr.elim|skip
 exact⟨rfl,by rw[xK da];exact q _ hr _ G H (.refl s) (.bl _)⟩
theorem FE:OpR X (compareOp .IsNot) (bV Z (Nf true)):=by
 refine IF.imp ?_;rintro x y H Q ⟨G,a,b,P,s,da,db,hr,q⟩;cases db<;>first|exact hr.elim|skip
 exact⟨rfl,by rw[xK da];exact q _ hr _ G H (.refl s) (.bl _)⟩
def eS:D->Bool
 | .bb=>true
 | .bl _=>true
 | .int _=>true
 | .str _=>true
 |_=>false
def iE:D->D->Bool
 | .bb, .bb=>true
 | .bl a, .bl b=>a==b
 | .bl a, .int b=>(if a then 1 else 0)==b
 | .int a, .bl b=>a==(if b then 1 else 0)
 | .int a, .int b=>a==b
 | .str a, .str b=>a==b
 |_,_=>false
def inD(x:D)(l:List D):Bool:=l.any λy=>iE y x
theorem qh{G:Hp}{v:V}{d:D}(h:Dv Z G v d):gx v=eS d:=by cases h<;>rfl
theorem mK{G:Hp}{vs:List V}{ds:List D}(h:DvAll Z G vs ds):vs.all gx=ds.all eS:=h.ind (p:=λvs ds=>vs.all gx=ds.all eS) rfl λa _ e=>by rw[r6,r6,qh a,e]
theorem yY{G:Hp}{v u:V}{d e:D}(h:Dv Z G v d)(k:Dv Z G u e):uQ v u=iE d e:=by cases h<;>first|rfl| (cases k<;>rfl)
theorem Cq{G:Hp}{v:V}{d:D}(h:Dv Z G v d):∀{vs:List V}{ds:List D},DvAll Z G vs ds->K5 v vs=inD d ds
 |_,_, .nil=>rfl
 |_,_, .cons a as=>by
  unfold K5 inD;rw[List.any_cons,List.any_cons,yY a h];exact congrArg _ (Cq h as)
def Ko(neg:Bool):gm:=λx y P=>match y with
 | .lst l=>eS x=true/\l.all eS=true/\P (.bl (if neg then !inD x l else inD x l))
 | .tup l=>eS x=true/\l.all eS=true/\P (.bl (if neg then !inD x l else inD x l))
 |_=>False
theorem Jm{neg:Bool}:∀x y H Q,bV Z (Ko neg) x y H Q->Qr X.K neg x y H Q:=by
 rintro x y H Q ⟨G,a,b,P,s,da,db,hr,q⟩;cases db<;>first|exact hr.elim|skip
 ·rename_i p xs ds h e
  obtain⟨h1,h2,hp⟩:=hr;refine⟨p,xs,rfl, .inl (bU.of (s _ _ h)),by rw[qh da];exact h1,by rw[mK e];exact h2,?_⟩
  rw[Cq da e];exact q _ hp _ G H (.refl s) (.bl _)
 ·rename_i p xs ds h e
  obtain⟨h1,h2,hp⟩:=hr;refine⟨p,xs,rfl, .inr (gq.of (s _ _ h)),by rw[qh da];exact h1,by rw[mK e];exact h2,?_⟩
  rw[Cq da e];exact q _ hp _ G H (.refl s) (.bl _)
theorem vt:OpR X (compareOp .In) (bV Z (Ko false)):=CU.imp Jm
theorem rR:OpR X (compareOp .NotIn) (bV Z (Ko true)):=wV.imp Jm
def OL:gm:=λx y P=>match x,y with
 | .lst l, .int i=>∃d,fO l i=some d/\P d
 | .tup l, .int i=>∃d,fO l i=some d/\P d
 | .mm l, .int i=>∃n,fO l i=some n/\P (.int n)
 |_,_=>False
theorem DU{G:Hp}{vs:List V}{ds:List D}{i:Int}{d:D}(h:DvAll Z G vs ds)(e:fO ds i=some d):∃v,fO vs i=some v/\Dv Z G v d:=by
 unfold fO at e ⊢;rw[h.length];cases z:jj ds.length i with
 |none=>rw[z] at e;cases e
 |some j=>rw[z] at e;exact h.get e
theorem GG{α β:Type}(f:α->β)(l:List α)(i:Int):fO (l.map f) i=(fO l i).map f:=by
 unfold fO;rw[aG];cases jj l.length i with
 |none=>rfl
 |some j=>show(l.map f)[j]? =_;rw[cA];rfl
variable {a b c e:Expr} {ta tb tc te:bg} {pos:Pos}
theorem aO(ha:DE Z X a ta)(hb:DE Z X b tb)(eK:X.K=Z.K:=by rfl)(hs:ui b:=by exact λ_ _=>rfl):DE Z X (.Subscript a b pos) (Ag OL ta tb):=by
 refine(IM (AQ.or K7) ha hb hs).imp λσ H Q h=>?_;rfl';obtain⟨G,ρ,P,s,e,h,q⟩:=zi σ H Q h;ac_rfl;refine⟨G,ρ,P,s,e,h,λd hd v G1 H1 x1 dv=>?_⟩;rfl';obtain⟨G',aA,P',s',e',h',q'⟩:=q d hd v G1 H1 x1 dv;ac_rfl;refine⟨G',aA,P',s',e',h',λd2 hd2 v2 G2 H2 x2 p9=>?_⟩;obtain⟨G,a,b,P,s,da,db,hr,q⟩:=q' d2 hd2 v2 G2 H2 x2 p9;unfold OL at hr
 split at hr
 ·obtain⟨d,h1,hp⟩:=hr
  obtain⟨_,_,rfl,h,e⟩:=da.jl;obtain⟨v,hv,dv⟩:=DU e h1;exact .inl ⟨_,_,_,v,rfl,db.ofInt,bU.of (s _ _ h),hv,q _ hp _ G _ (.refl s) dv⟩
 ·obtain⟨d,h1,hp⟩:=hr
  obtain⟨_,_,rfl,h,e⟩:=da.rS;obtain⟨v,hv,dv⟩:=DU e h1;exact .inr ⟨_,_,_,v,rfl,db.ofInt,gq.of (s _ _ h),hv,q _ hp _ G _ (.refl s) dv⟩
 rotate_left
 ·exact hr.elim
 ·obtain⟨d,h1,hp⟩:=hr
  rfl';obtain⟨_,rfl,h,_⟩:=da.Iy;ac_rfl;refine .inl ⟨_,_,_, .int d,rfl,db.ofInt,by rw[eK];exact h.mono s,by rw[GG,h1];rfl,q _ hp _ G _ (.refl s) (.int d)⟩
def cutD{α:Type}(xs:List α)(lo hi:Option Int):List α:=(xs.drop (HT.bX xs.length 0 lo)).take (HT.bX xs.length xs.length hi-HT.bX xs.length 0 lo)
theorem D3{G:Hp}{vs:List V}{ds:List D}(h:DvAll Z G vs ds)(lo hi:Option Int):DvAll Z G (sq vs lo hi) (cutD ds lo hi):=by
 unfold sq cutD;rw[h.length];exact(h.drop _).take _
theorem EV{α β:Type}(f:α->β)(l:List α)(lo hi:Option Int):cutD (l.map f) lo hi=(cutD l lo hi).map f:=by
 unfold cutD;rw[aG,tj,qY]
abbrev BP:=DN->(Option Int->Prop)->Prop
def GW:BP:=λ_ P=>P none
def OQ(t:bg):BP:=λρ P=>t ρ λd=>match d with
 | .int i=>P (some i)
 |_=>False
def P9(Z:DC)(t:BP):TO:=λσ H Q=>∃(G:Hp)(ρ:DN)(P:Option Int->Prop),aK G H/\dk Z G σ ρ/\t ρ P/\∀o,P o->∀G' H',Ext G H G' H'->Q o H'
def DO(Z:DC)(X:Cx)(e:Option Expr)(t:BP):Prop:=PO X e (P9 Z t)
theorem PO.imp{e:Option Expr}{t t':TO}(h:PO X e t)(f:∀σ H Q,t' σ H Q->t σ H Q):PO X e t':=λpins s σ H Q I q=>h pins s σ H Q I (f _ _ _ q)
theorem dU:DO Z X none GW:=by
 refine IZ.imp λσ H Q gX=>?_;rfl';obtain⟨G,ρ,P,s,e,p,q⟩:=gX;ac_rfl;exact q _ p G H (.refl s)
theorem dW(h:DE Z X e te):DO Z X (some e) (OQ te):=by
 refine(I0 h).imp ?_;intro σ H Q aJ;rfl';obtain⟨G,ρ,P,s,e,h,q⟩:=aJ;ac_rfl;refine⟨G,ρ,_,s,e,h,λd hd v G1 H1 x1 dv=>?_⟩;cases dv<;>first|exact hd.elim|skip
 exact⟨_,rfl,q _ hd G1 H1 x1⟩
def Z9(te:bg)(tl th:BP):bg:=λρ P=>te ρ λx=>tl ρ λlo=>th ρ λhi=>match x with
 | .lst l=>P (.lst (cutD l lo hi))
 | .tup l=>¬(HT.bX l.length 0 lo=0/\HT.bX l.length l.length hi=l.length)/\P (.tup (cutD l lo hi))
 | .mm l=>P (.lst ((cutD l lo hi).map D.int))
 |_=>False
variable {lo hi:Option Expr} {tl th:BP} {p2:Pos}
theorem cO(he:DE Z X e te)(hl:DO Z X lo tl)(hu:DO Z X hi th)(eK:X.K=Z.K:=by rfl):DE Z X (.Subscript e (.Slice lo hi none p2) pos) (Z9 te tl th):=by
 refine(FL (Ju.or Ma) he hl hu).imp ?_;intro σ H Q aJ;rfl';obtain⟨G,ρ,P,s,en,h,q⟩:=aJ;ac_rfl;refine⟨G,ρ,_,s,en,h,λd hd v G1 H1 x1 dv=>?_⟩;refine⟨G1,ρ,_,x1.sub,en.mono x1.gg,hd,λl hl G2 H2 x2=>?_⟩;refine⟨G2,ρ,_,x2.sub,(en.mono x1.gg).mono x2.gg,hl,λu hu G3 H3 x3=>?_⟩;have x:=(x1.trans x2).trans x3;have dv:=(dv.mono x2.gg).mono x3.gg;cases dv<;>first|exact hu.elim|skip
 ·rename_i h e
  exact .inl ⟨_,_,rfl,bU.of (x3.sub _ _ h),λp hn=>q _ hu _ _ _ (x.trans (.new x3.sub hn)) (.lst av ((D3 e l u).mono (aW (x3.sub.free hn) _)))⟩
 ·rename_i h e
  refine .inr ⟨_,_,rfl,gq.of (x3.sub _ _ h),by rw[e.length];exact hu.1,λp hn=>q _ hu.2 _ _ _ (x.trans (.new x3.sub hn)) (.tup av ((D3 e l u).mono (aW (x3.sub.free hn) _)))⟩
 ·rename_i h _
  refine .inl ⟨_,_,rfl,by rw[eK];exact h.mono x3.sub,λp hn=>q _ hu _ _ _ (x.trans (.new x3.sub hn)) (.lst av ?_)⟩
  show DvAll Z _ (cutD _ l u) _;rw[EV];exact .ints _
def eY:b9:=λds P=>match ds with
 | [.lst l]=>P (.int l.length)
 | [.tup l]=>P (.int l.length)
 | [.mm l]=>P (.int l.length)
 |_=>False
theorem aZ(eK:X.K=Z.K:=by rfl):eM X (.builtin "len") (lb Z eY):=by
 refine wC.imp ?_;rintro xs H Q ⟨G,ds,P,s,dv,hr,q⟩;unfold eY at hr
 split at hr
 ·obtain⟨_,rfl,a⟩:=dv.ofOne
  obtain⟨_,_,rfl,h,e⟩:=a.jl;exact⟨_,_,rfl, .inl (bU.of (s _ _ h)),by rw[e.length];exact q _ hr _ G H (.refl s) (.int _)⟩
 ·obtain⟨_,rfl,a⟩:=dv.ofOne
  obtain⟨_,_,rfl,h,e⟩:=a.rS;exact⟨_,_,rfl, .inr (gq.of (s _ _ h)),by rw[e.length];exact q _ hr _ G H (.refl s) (.int _)⟩
 ·obtain⟨_,rfl,a⟩:=dv.ofOne
  obtain⟨_,rfl,h,_⟩:=a.Iy;exact⟨_,_,rfl, .inl (by rw[eK];exact h.mono s),by rw[aG];exact q _ hr _ G H (.refl s) (.int _)⟩
 ·exact hr.elim
def GI:b9:=λds P=>match ds with
 | [.lst l]=>P (.lst l)
 | [.tup l]=>P (.lst l)
 |_=>False
theorem uz:eM X (.type "list") (lb Z GI):=by
 refine wD.imp ?_;rintro xs H Q ⟨G,ds,P,s,dv,hr,q⟩;unfold GI at hr
 split at hr
 ·obtain⟨_,rfl,a⟩:=dv.ofOne
  obtain⟨_,_,rfl,h,e⟩:=a.jl;exact⟨_,_,rfl, .inl (bU.of (s _ _ h)),λp hn=>q _ hr _ _ _ (.new s hn) (.lst av (e.mono (aW (s.free hn) _)))⟩
 ·obtain⟨_,rfl,a⟩:=dv.ofOne
  obtain⟨_,_,rfl,h,e⟩:=a.rS;exact⟨_,_,rfl, .inr (gq.of (s _ _ h)),λp hn=>q _ hr _ _ _ (.new s hn) (.lst av (e.mono (aW (s.free hn) _)))⟩
 ·exact hr.elim
def U3:String->D->Bool
 |"int", .int _=>true
 |"int", .bl _=>true
 |"bool", .bl _=>true
 |"list", .lst _=>true
 |"tuple", .tup _=>true
 |_,_=>false
def Qe(n:String):Bool:=n=="int"||n=="bool"||n=="list"||n=="tuple"
def NM:D->Bool
 | .bb=>true
 | .bl _=>true
 | .int _=>true
 | .str _=>true
 | .lst _=>true
 | .tup _=>true
 |_=>false
def SH(n:String)(t:bg):bg:=λρ P=>t ρ λd=>NM d=true/\P (.bl (U3 n d))
theorem Lf{K:PySem.W.Frag}{H:Hp}{v:V}{d:D}{n:String}(hn:Qe n=true)(hd:NM d=true)(h:Dv Z H v d):∃t,jA K H v t/\PySem.W.kitOne K t (.type n)=some (U3 n d):=by
 unfold Qe at hn;rw[Bool.or_eq_true,Bool.or_eq_true,Bool.or_eq_true,beq_iff_eq,beq_iff_eq,beq_iff_eq,beq_iff_eq] at hn;cases h with
 |bb=>refine⟨_, .bb,?_⟩;rcases hn with ((rfl|rfl) |rfl) |rfl<;>kernel_rfl
 |bl b=>refine⟨_, .bl b,?_⟩;rcases hn with ((rfl|rfl) |rfl) |rfl<;>kernel_rfl
 |int b=>refine⟨_, .int b,?_⟩;rcases hn with ((rfl|rfl) |rfl) |rfl<;>kernel_rfl
 |str b=>refine⟨_, .str b,?_⟩;rcases hn with ((rfl|rfl) |rfl) |rfl<;>kernel_rfl
 |lst h a=>refine⟨_, .lst h,?_⟩;rcases hn with ((rfl|rfl) |rfl) |rfl<;>kernel_rfl
 |tup h a=>refine⟨_, .tup h,?_⟩;rcases hn with ((rfl|rfl) |rfl) |rfl<;>kernel_rfl
 |_=>cases hd
end
section
variable {Z:DC} {X:Cx} {a b c e:Expr} {ta tb tc te:bg} {pos:Pos}
theorem pU(n:String){x:Str}{p p':Pos}(ha:DE Z X a ta)(hg:Gl X "isinstance")(hm:X.mg "isinstance"=none)(hg':Gl X x)(og:X.mg x=none)(hv:bootBuiltins x=some (.type n))(ok:Qe n=true:=by decide)
  (hn:x≠"__name__":=by decide) (hd:(x==("__debug__":Str))=false:=by decide) (hs:starEach [a, .Name x p'] X.env=(false,eval a X.env)::starEach [.Name x p'] X.env:=by rfl)
  (eG:(backTo pos (starEach [.Name x p'] X.env)).any (·.1)=false:=by rfl) (iN:starEach [.Name x p'] X.env=(false,eval (.Name x p') X.env)::starEach [] X.env:=by rfl):
  DE Z X (.Call (.Name "isinstance" p) [a, .Name x p'] [] pos) (SH n ta):=by
 have hb:PE X (.Name x p') (tC (.ty n)):=IJ hg' og hv rfl hn hd;refine(rV yN hg hm (by decide+kernel) (cS ha (cS hb fU iN) hs) (by decide) (by decide) hs eG).imp ?_
 intro σ H Q aJ;rfl';obtain⟨G,ρ,P,s,e,h,q⟩:=aJ;ac_rfl;refine⟨G,ρ,_,s,e,h,?_⟩;rintro d ⟨hk,hp⟩ v G1 H1 x1 dv;obtain⟨t,ht,gQ⟩:=Lf (K:=X.K) (H:=H1) ok hk (dv.mono x1.sub);exact⟨v,n,t,_,rfl,ht,gQ,q _ hp _ G1 H1 x1 (.bl _)⟩
def rO(Z:DC)(g:eO):TG:=λv σ H Q=>∃(G:Hp)(ρ:DN)(d:D)(P:DN->Prop),aK G H/\dk Z G σ ρ/\Dv Z G v d/\g d ρ P/\∀aA,P aA->∀az,dk Z G az aA->Q az H
def DG(Z:DC)(X:Cx)(e:Expr)(g:eO):Prop:=PG X e (rO Z g)
theorem PG.imp{e:Expr}{t t':TG}(h:PG X e t)(f:∀v σ H Q,t' v σ H Q->t v σ H Q):PG X e t':=λpins s σ H v u Q I r q=>h pins s σ H v u Q I r (f _ _ _ _ q)
def pX(i:Nat):eO:=λd ρ P=>P (ρ.set i (some d))
theorem bE(i:Nat){x:Str}(hN:X.N.Nodup)(hi:X.N[i]? =some x:=by rfl)(hx:Loc X.env.scope x:=by exact Or.inl rfl)(hf:X.fn x=true\/X.env.scope.names.lookup x=some .local:=by first|exact .inl rfl|exact .inr rfl|assumption):DG Z X (.Name x pos) (pX i):=by
 refine(Bc hN hi hx hf).imp λv σ H Q DH=>?_;rfl';obtain⟨G,ρ,d,P,s,e,dv,h,q⟩:=DH;ac_rfl;exact q _ h _ (e.set dv)
abbrev lL:=List D->DN->(DN->Prop)->Prop
def Lj(Z:DC)(g:lL):wB:=λvs σ H Q=>∃(G:Hp)(ρ:DN)(ds:List D)(P:DN->Prop),aK G H/\dk Z G σ ρ/\DvAll Z G vs ds/\g ds ρ P/\∀aA,P aA->∀az,dk Z G az aA->Q az H
def J8(Z:DC)(X:Cx)(es:List Expr)(g:lL):Prop:=yJ X es (Lj Z g)
theorem yJ.imp{es:List Expr}{t t':wB}(h:yJ X es t)(f:∀v σ H Q,t' v σ H Q->t v σ H Q):yJ X es t':=λpins s σ H v u Q I r q=>h pins s σ H v u Q I r (f _ _ _ _ q)
def Hd:lL:=λds ρ P=>ds= []/\P ρ
def D6(g:eO)(gs:lL):lL:=λds ρ P=>match ds with
 |d::r=>g d ρ λaA=>gs r aA P
 | []=>False
theorem pY:J8 Z X [] Hd:=by
 refine Bd.imp λv σ H Q DH=>?_;rfl';obtain⟨G,ρ,ds,P,s,e,dv,⟨h,p⟩,q⟩:=DH;subst h;cases dv;ac_rfl;exact⟨rfl,q _ p _ e⟩
theorem gh{es:List Expr}{g:eO}{gs:lL}(h1:DG Z X e g)(h2:J8 Z X es gs)(hs:(assignEach (e::es) X.env).map (·.2)=assign e X.env::(assignEach es X.env).map (·.2):=by rfl):J8 Z X (e::es) (D6 g gs):=by
 refine(yb h1 h2 hs).imp ?_;intro v σ H Q iB;rfl';obtain⟨G,ρ,ds,P,s,e,dv,h,q⟩:=iB;ac_rfl;cases dv with
 |nil=>exact h.elim
 |cons a as=>
  refine⟨_,_,rfl,G,ρ,_,_,s,e,a,h,λaA hp az e'=>?_⟩;exact⟨G,aA,_,P,s,e',as,hp,q⟩
def He(n:Nat)(gs:lL):eO:=λd ρ P=>match d with
 | .tup l=>l.length=n/\gs l ρ P
 |_=>False
theorem tZ(n:Nat){es:List Expr}{k:Nat}{gs:lL}(hc:X.calm=true)(h:J8 Z X es gs)(hn:(assignEach es X.env).length=n:=by rfl)(kz:(assignEach es X.env).findIdx? (·.1)=none:=by rfl):DG Z X (.Tuple es k pos) (He n gs):=by
 refine(Ew hc h hn kz).imp ?_;rintro v σ H Q ⟨G,ρ,d,P,s,e,dv,h,q⟩;cases dv<;>first|exact h.elim|skip
 rename_i a xs ds ha es
 exact⟨a,xs,rfl,gq.of (s _ _ ha),by rw[es.length];exact h.1,G,ρ,_,P,s,e,es,h.2,q⟩
def r9(Z:DC)(G:Hp)(J:It)(ds:List D):Prop:=∀G2 H2,aK G G2->aK G2 H2->∀i:Nat,(i<ds.length->J.go i H2)/\(ds.length<=i->J.stop i H2)/\
 ∀x H',i<ds.length->J.yld i H2 x H'->∃G3 d,Ext G2 H2 G3 H'/\ds[i]? =some d/\Dv Z G3 x d
def vi(Z:DC)(wi:g5):TI:=λσ H R=>∃(G:Hp)(ρ:DN)(P:List D->Prop),aK G H/\dk Z G σ ρ/\wi ρ P/\∀ds,P ds->∀J G' H',Ext G H G' H'->r9 Z G' J ds->R J H'
def DI(Z:DC)(X:Cx)(tg e:Expr)(wi:g5):Prop:=PI X tg e (vi Z wi)
theorem PI.imp{tg e:Expr}{t t':TI}(h:PI X tg e t)(f:∀σ H Q,t' σ H Q->t σ H Q):PI X tg e t':=λpins s σ H Q I q=>h pins s σ H Q I (f _ _ _ q)
def OV(t:bg):g5:=λρ P=>t ρ λd=>match d with
 | .lst l=>P l
 |_=>False
theorem HU{K:PySem.W.Frag}{G:Hp}{a:Addr}{xs:List V}{ds:List D}(h:G a=some (.lst xs))(e:DvAll Z G xs ds):r9 Z G (N0 K a) ds:=by
 intro G2 H2 s1 s2 i;have h2:=bU.of (K:=K) (s2 _ _ (s1 _ _ h));have l:=e.length;refine⟨λhi=>⟨xs,xs[i],h2,bO (by omega)⟩,λhi=>⟨xs,h2,by omega⟩,?_⟩
 rintro x H' hi ⟨rfl,hx⟩;obtain⟨d,hd,dv⟩:=e.xH (hx _ h2);exact⟨G2,d, .refl s2,hd,dv.mono s1⟩
theorem bF{tg:Expr}(h:DE Z X e te):DI Z X tg e (OV te):=by
 refine(IW h).imp ?_;intro σ H Q aJ;rfl';obtain⟨G,ρ,P,s,en,h,q⟩:=aJ;ac_rfl;refine⟨G,ρ,_,s,en,h,λd hd v G1 H1 x1 dv=>?_⟩;cases dv<;>first|exact hd.elim|skip
 rename_i ha e
 exact⟨_,rfl,⟨_,bU.of (x1.sub _ _ ha)⟩,q _ hd _ G1 H1 x1 (HU ha e)⟩
def cW(lo:Int)(n:Nat):List D:=(List.range n).map λ(k:Nat)=>D.int (lo+(k:Int))
theorem sN{lo:Int}{n i:Nat}(h:i<n):(cW lo n)[i]? =some (.int (lo+i)):=by
 unfold cW;rw[cA,oM h];rfl
theorem rJ{G:Hp}(lo:Int)(n:Nat):r9 Z G (Gp lo n) (cW lo n):=by
 intro G2 H2 s1 s2 i;have l:(cW lo n).length=n:=by unfold cW;simp
 rw[l];refine⟨λhi=>hi,λhi=>hi,?_⟩;rintro x H' hi ⟨rfl,rfl⟩;exact⟨G2,_, .refl s2,sN hi, .int _⟩
def Nl(t:gn):g5:=λρ P=>t ρ λds=>match ds with
 | [.int j]=>(-(2^62)<=j/\j<2^62)/\P (cW 0 j.toNat)
 |_=>False
def Tw(t:gn):g5:=λρ P=>t ρ λds=>match ds with
 | [.int i, .int j]=>(-(2^62)<=i/\i<2^62/\-(2^62)<=j/\j<2^62)/\P (cW i (j-i).toNat)
 |_=>False
variable {t:gn}
theorem oU{tg:Expr}{p:Pos}(hg:Gl X "range")(hm:X.mg "range"=none)(ha:DA Z X [a] t)(hs:starEach [a] X.env= [(false,eval a X.env)]:=by rfl):DI Z X tg (.Call (.Name "range" p) [a] [] pos) (Nl t):=by
 refine(vJ hg hm ha hs).imp ?_;intro σ H Q aJ;rfl';obtain⟨G,ρ,P,s,en,h,q⟩:=aJ;ac_rfl;refine⟨G,ρ,_,s,en,h,λds hd vs G1 H1 x1 dv=>?_⟩
 split at hd
 ·obtain⟨_,rfl,a⟩:=dv.ofOne
  exact⟨_,by rw[a.ofInt],hd.1.1,hd.1.2,q _ hd.2 _ G1 H1 x1 (rJ 0 _)⟩
 ·exact hd.elim
def gw(l:List D):List D:=l.mapIdx λi x=> .tup [.int (i:Int),x]
def Kx(t:gn):g5:=λρ P=>t ρ λds=>match ds with
 | [.lst l]=>P (gw l)
 |_=>False
theorem HS{K:PySem.W.Frag}{G:Hp}{a:Addr}{xs:List V}{ds:List D}(h:G a=some (.lst xs))(e:DvAll Z G xs ds):r9 Z G (NZ K a) (gw ds):=by
 intro G2 H2 s1 s2 i;have h2:=bU.of (K:=K) (s2 _ _ (s1 _ _ h));have l:=e.length;rw[show(gw ds).length=ds.length by unfold gw;simp]
 refine⟨λhi=>⟨xs,xs[i],h2,bO (by omega)⟩,λhi=>⟨xs,h2,by omega⟩,?_⟩
 rintro x H' hi ⟨t,y,rfl,ht,rfl,hx⟩;obtain⟨d,hd,dv⟩:=e.xH (hx _ h2);refine⟨_,_, .new s2 ht,by unfold gw;rw[List.getElem?_mapIdx,hd];rfl,?_⟩
 exact .tup av (.cons (.int _) (.cons ((dv.mono s1).mono (aW (s2.free ht) _)) .nil))
theorem cD{p:Pos}{es:List Expr}{k1}{tp:Pos}(hg:Gl X "enumerate")(hm:X.mg "enumerate"=none)(ha:DA Z X [a] t)(hs:starEach [a] X.env= [(false,eval a X.env)]:=by rfl):DI Z X (.Tuple es k1 tp) (.Call (.Name "enumerate" p) [a] [] pos) (Kx t):=by
 refine(IV hg hm ha hs).imp ?_;intro σ H Q aJ;rfl';obtain⟨G,ρ,P,s,en,h,q⟩:=aJ;ac_rfl;refine⟨G,ρ,_,s,en,h,λds hd vs G1 H1 x1 dv=>?_⟩
 split at hd
 ·obtain⟨_,rfl,a⟩:=dv.ofOne
  obtain⟨_,_,rfl,h,e⟩:=a.jl;exact⟨_,rfl,⟨_,x1.sub _ _ h⟩,q _ hd _ G1 H1 x1 (HS h e)⟩
 ·exact hd.elim
def nJ(l m:List D):List D:=List.zipWith (λx y=> .tup [x,y]) l m
def OX(t:gn):g5:=λρ P=>t ρ λds=>match ds with
 | [.lst l, .lst m]=>P (nJ l m)
 |_=>False
theorem K6{G:Hp}{a b:Addr}{xs ys:List V}{ds es:List D}(h:G a=some (.lst xs))(e:DvAll Z G xs ds)(h':G b=some (.lst ys))(e':DvAll Z G ys es):r9 Z G (N3 a b) (nJ ds es):=by
 intro G2 H2 s1 s2 i;have h2:=s2 _ _ (s1 _ _ h);have h3:=s2 _ _ (s1 _ _ h');have l:=e.length;have l':=e'.length;rw[show(nJ ds es).length=min ds.length es.length by unfold nJ;simp]
 refine⟨λhi=>⟨xs,ys,xs[i]'(by omega),ys[i]'(by omega),h2,h3,bO (by omega),bO (by omega)⟩,λhi=>⟨xs,ys,h2,h3,by omega⟩,?_⟩
 intro x H' hi aJ;rfl';obtain⟨t,y,z,rfl,ht,rfl,hx,hy⟩:=aJ;ac_rfl;rfl';obtain⟨d,hd,dv⟩:=e.xH (hx _ h2);obtain⟨d',gP,jT⟩:=e'.xH (hy _ h3);ac_rfl;refine⟨_,_, .new s2 ht,by unfold nJ;rw[List.getElem?_zipWith,hd,gP],?_⟩
 have sn:=aW (s2.free ht) (.tup [y,z]);exact .tup av (.cons ((dv.mono s1).mono sn) (.cons ((jT.mono s1).mono sn) .nil))
theorem Kz{p:Pos}{es:List Expr}{k1}{tp:Pos}(hg:Gl X "zip")(hm:X.mg "zip"=none)(ha:DA Z X [a,b] t)(hs:starEach [a,b] X.env= [(false,eval a X.env),(false,eval b X.env)]:=by rfl)(iN:starEach [b] X.env= [(false,eval b X.env)]:=by rfl):DI Z X (.Tuple es k1 tp) (.Call (.Name "zip" p) [a,b] [] pos) (OX t):=by
 refine(LS hg hm ha hs iN).imp ?_;rintro σ H Q ⟨G,ρ,P,s,en,h,q⟩;refine⟨G,ρ,_,s,en,h,λds hd vs G1 H1 x1 dv=>?_⟩
 split at hd
 ·obtain⟨u1,u2,rfl,da,db⟩:=dv.zu
  rfl';obtain⟨_,_,rfl,ha,e⟩:=da.jl;obtain⟨_,_,rfl,hb,e'⟩:=db.jl;ac_rfl;exact⟨_,_,_,_,rfl,x1.sub _ _ ha,x1.sub _ _ hb,q _ hd _ G1 H1 x1 (K6 ha e hb e')⟩
 ·exact hd.elim
def yu(src:List (Option Nat))(ρ:DN):DN:=src.map λo=>o.bind λi=>(ρ[i]?).bind id
theorem dk.src{G:Hp}{σ:St}{ρ:DN}(e:dk Z G σ ρ)(src:List (Option Nat)):dk Z G (lY src σ) (yu src ρ):=by
 refine⟨by unfold lY yu;simp,λi d h=>?_⟩
 unfold yu at h;unfold lY;rw[cA] at h ⊢;cases k:src[i]? with
 |none=>rw[k] at h;cases h
 |some o=>
  rw[k] at h;cases o with
  |none=>cases h
  |some j=>
   have h':(ρ[j]?).bind id=some d:=Option.some.inj h;cases m:ρ[j]? with
   |none=>rw[m] at h';cases h'
   |some z=>
    rw[m] at h';rfl';have h2:z=some d:=h';subst h2;obtain⟨v,hv,dv⟩:=e.at_ j d m;ac_rfl;exact⟨v,by show some ((σ[j]?).bind id)=_;rw[hv];rfl,dv⟩
def lcW(g:eO)(tt:dS)(te:bg):List D->DN->List D->(DN->List D->Prop)->Prop
 | [],ρ,acc,N=>N ρ acc
 |x::xs,ρ,acc,N=>g x ρ λbo=>tt bo λb=>if b=true then te bo λd=>acc.length<sizeLine/\lcW g tt te xs bo (acc++ [d]) N else lcW g tt te xs bo acc N
def OM(wi:g5)(g:eO)(tt:dS)(te:bg)(src:List (Option Nat)):bg:=λρ P=>wi ρ λds=>lcW g tt te ds (yu src ρ) [] λ_ out=>P (.lst out)
def lN(g:eO)(tt:dS)(eC:g5)(g1:eO)(dz:dS)(te:bg):List D->DN->List D->(List D->Prop)->Prop
 | [],_,acc,P=>P acc
 |x::xs,ρ,acc,P=>g x ρ λbo=>tt bo λb=>if b=true then eC bo λes=>lcW g1 dz te es bo acc λdQ pN=>lN g tt eC g1 dz te xs dQ pN P else lN g tt eC g1 dz te xs bo acc P
def GU(wi:g5)(g:eO)(tt:dS)(eC:g5)(g1:eO)(dz:dS)(te:bg)(src:List (Option Nat)):bg:=λρ P=>wi ρ λds=>lN g tt eC g1 dz te ds (yu src ρ) [] λout=>P (.lst out)
def kd:dS:=λ_ P=>P true
def wz(Z:DC)(X:Cx)(ifs:List Expr)(t:dS):Prop:=kS X ifs (liftT Z t)
theorem kS.imp{ifs:List Expr}{t t':TT}(h:kS X ifs t)(f:∀σ H Q,t' σ H Q->t σ H Q):kS X ifs t':=λpins s σ H Q I q=>h pins s σ H Q I (f _ _ _ q)
theorem cE:wz Z X [] kd:=by
 refine Je.imp λσ H Q gX=>?_;rfl';obtain⟨G,ρ,P,s,e,p,q⟩:=gX;ac_rfl;exact q _ p G H (.refl s)
theorem p5{tA:dS}(h:DT Z X c tA):wz Z X [c] tA:=Jf h
def CS(Z:DC)(G1 H1:Hp)(Ad:Addr)(ρ:DN)(acc:List D)(σ:St)(H:Hp):Prop:=
 ∃(G:Hp)(ys:List V),aK G1 G/\aK G H/\aK H1 H/\(∀b,H1 b≠none->G1 b=none->G b=none)/\G Ad=none/\H Ad=some (.lst ys)/\DvAll Z G ys acc/\dk Z G σ ρ
theorem eB{H H':Hp}(s:aK H H'){b:Addr}(h:H b≠none):H' b≠none:=λz=>by
 cases e:H b with
 |none=>exact h e
 |some o=>rw[s b o e] at z;cases z
theorem pZ{α:Type}{l:List α}{i:Nat}{x:α}(h:l[i]? =some x):l.drop i=x::l.drop (i+1):=by
 obtain⟨hi,e⟩:=dE.mp h;rw[BH hi,e]
theorem xP{G1 H1:Hp}{Ad:Addr}{J:It}{ds:List D}{g:eO}{tt:dS}{te:bg}{N:DN->List D->Prop}(hA:H1 Ad=none)(G0:Hp)(it:r9 Z G0 J ds)(i:Nat)(ρ:DN)(acc:List D)(σ:St)(H:Hp)
  (c:CS Z G1 H1 Ad ρ acc σ H) (hG:∀G,aK G1 G->aK G0 G) (hi:i<ds.length) (h:lcW g tt te (ds.drop i) ρ acc N):
  J.go i H/\∀x H3,J.yld i H x H3->rO Z g x σ H3 λfJ H4=>liftT Z tt fJ H4 λb H5=>
   if b=true then dY Z te fJ H5 λv H6=>∃ys,H6 Ad=some (.lst ys)/\ys.length<sizeLine/\(∃aA eI,CS Z G1 H1 Ad aA eI fJ (upd H6 Ad (.lst (ys++ [v])))/\lcW g tt te (ds.drop (i+1)) aA eI N)
   else ∃aA eI,CS Z G1 H1 Ad aA eI fJ H5/\lcW g tt te (ds.drop (i+1)) aA eI N:=by
 rfl';obtain⟨G2,ys,s1,s2,s3,off,gA,tE,bw,en⟩:=c;obtain⟨go,_,yld⟩:=it G2 H (hG _ s1) s2 i;ac_rfl;refine⟨go hi,λx H3 y=>?_⟩;rfl';obtain⟨G3,d,x3,hd,dv⟩:=yld x H3 hi y;rw[pZ hd] at h;ac_rfl;refine⟨G3,ρ,d,_,x3.sub,en.mono x3.gg,dv,h,λbo h1 fJ yX=>?_⟩;refine⟨G3,bo,_,x3.sub,yX,h1,λb hb G5 H5 x5=>?_⟩;have nI:=x3.trans x5;have xY:∀{G tu:Hp},Ext G2 H G tu->G Ad=none:=λx=>x.off Ad (by rw[tE];exact λz=>nomatch z) gA
 have A5:∀{G tu:Hp},Ext G2 H G tu->∀b,H1 b≠none->G1 b=none->G b=none:=λx b h1 h2=>x.off b (eB s3 h1) (off b h1 h2);cases b with
 |false=>
  refine cv ⟨bo,acc,⟨G5,ys,s1.trans nI.gg,nI.sub,s3.trans nI.hh,A5 nI,xY nI,nI.hh _ _ tE,bw.mono nI.gg,yX.mono x5.gg⟩,?_⟩;simpa using hb
 |true=>
  refine dr ⟨G5,bo,_,x5.sub,yX.mono x5.gg,(by simpa using hb),λd' gP v G6 H6 x6 dv6=>?_⟩
  have x:=nI.trans x6;refine⟨ys,x.hh _ _ tE,by rw[bw.length];exact gP.1,bo,_,⟨G6,ys++ [v],s1.trans x.gg,λb o e=>?_,λb o e=>?_,A5 x,xY x,av,(bw.mono x.gg).snoc dv6,(yX.mono x5.gg).mono x6.gg⟩,gP.2⟩
  ·rw[aw (aR e (xY x))];exact x.sub _ _ e
  ·rw[aw (aR e hA)];exact(s3.trans x.hh) _ _ e
theorem CS.done{G H G1 H1 H2:Hp}{Ad:Addr}{ρ:DN}{acc:List D}{σ:St}(c:CS Z G1 H1 Ad ρ acc σ H2)(x1:Ext G H G1 H1)(hA:H1 Ad=none):∃G',Ext G H G' H2/\Dv Z G' (.ref Ad) (.lst acc):=by
 rfl';obtain⟨G2,ys,s1,s2,s3,off,gA,tE,bw,en⟩:=c;ac_rfl;refine⟨upd G2 Ad (.lst ys),⟨(x1.gg.trans s1).trans (aW gA _),λb o e=>?_,x1.hh.trans s3,λb hb hg=>?_⟩, .lst av (bw.mono (aW gA _))⟩
 ·by_cases z:b=Ad
  ·subst z;rw[av] at e;cases e;exact tE
  ·rw[aw z] at e;exact s2 _ _ e
 ·have h1:=eB x1.hh hb
  rw[aw (λz=>h1 (by rw[z];exact hA))]
  exact off b h1 (x1.off b hb hg)
theorem CS.begin{G1 H1:Hp}{Ad:Addr}{ρ:DN}{σ:St}(s:aK G1 H1)(hA:H1 Ad=none)(en:dk Z G1 σ ρ):CS Z G1 H1 Ad ρ [] σ (upd H1 Ad (.lst [])):=
 ⟨G1,[], .refl _,λb o e=>by rw[aw (aR e (s.free hA))];exact s _ _ e,aW hA _,λ_ _ h=>h,s.free hA,av, .nil,en⟩
variable {tg iter elt:Expr} {ifs:List Expr} {scope:Scope} {NC:List Str} {src:List (Option Nat)} {wi:g5} {g:eO} {tt:dS}
theorem Ek:∀σ H Q,dY Z (OM wi g tt te src) σ H Q->Mn (vi Z wi) (rO Z g) (liftT Z tt) (dY Z te) src σ H Q:=by
 intro σ H Q aJ;rfl';obtain⟨G,ρ,P,s,en,h,q⟩:=aJ;ac_rfl;refine⟨G,ρ,_,s,en,h,λds hd J G1 H1 x1 it Ad hA=>?_⟩;refine⟨λi m fI H2=>m=ds.length-i/\i<=ds.length/\∃dQ acc,CS Z G1 H1 Ad dQ acc fI H2/\lcW g tt te (ds.drop i) dQ acc λ_ out=>P (.lst out),⟨_,rfl,cM _,_,[], .begin x1.sub hA ((en.mono x1.gg).src src),hd⟩,?_⟩;intro i m fI H2 iB;rfl';obtain⟨rfl,hi,dQ,acc,c,hl⟩:=iB;ac_rfl
 by_cases cG:i<ds.length
 ·obtain⟨go,turn⟩:=xP hA G1 it i dQ acc fI H2 c (λ_ s=>s) cG hl
  exact .inr ⟨go,_,λaz H' n=>⟨ds.length-(i+1),by omega,rfl,cG,n⟩,turn⟩
 ·have e:ds.drop i= []:=BJ (by omega)
  rfl';rw[e] at hl;obtain⟨G',x,dv⟩:=c.done x1 hA;obtain⟨G2,ys,s1,s2,_⟩:=c;ac_rfl;exact .inl ⟨(it G2 H2 s1 s2 i).2.1 (by omega),q _ hl _ G' H2 x dv⟩
theorem oS(hc:X.calm=true)(c:cj X scope)(eJ:cQ scope X.N src NC)(hi:DI Z X tg iter wi)
  (hg:∀ex s H,DG Z (cg X scope NC ex s H) tg g) (ht:∀ex s H,wz Z (cg X scope NC ex s H) ifs tt) (he:∀ex s H,DE Z (cg X scope NC ex s H) elt te)
  (hs:∀x,foldedSetIterable iter X.env x=pure x:=by intro _;rfl):DE Z X (.ListComp elt [⟨tg,iter,ifs,0⟩] scope pos) (OM wi g tt te src):=(IQ hc c eJ hi hg ht he hs).imp Ek
variable {t0 i0 t1 i1:Expr} {f0 f1:List Expr} {eC:g5} {g1:eO} {dz:dS}
theorem AY:∀σ H Q,dY Z (GU wi g tt eC g1 dz te src) σ H Q->JP (vi Z wi) (rO Z g) (liftT Z tt) (vi Z eC) (rO Z g1) (liftT Z dz) (dY Z te) src σ H Q:=by
 intro σ H Q aJ;rfl';obtain⟨G,ρ,P,s,en,h,q⟩:=aJ;ac_rfl;refine⟨G,ρ,_,s,en,h,λds hd J G1 H1 x1 it Ad hA=>?_⟩;refine⟨λi m fI H2=>m=ds.length-i/\i<=ds.length/\∃dQ acc,CS Z G1 H1 Ad dQ acc fI H2/\lN g tt eC g1 dz te (ds.drop i) dQ acc λout=>P (.lst out),⟨_,rfl,cM _,_,[], .begin x1.sub hA ((en.mono x1.gg).src src),hd⟩,?_⟩;intro i m fI H2 iB;rfl';obtain⟨rfl,hi,dQ,acc,c,hl⟩:=iB;ac_rfl
 by_cases cG:i<ds.length
 ·have c0:=c
  rfl';obtain⟨G2,ys,s1,s2,s3,off,gA,tE,bw,en2⟩:=c;obtain⟨go,_,yld⟩:=it G2 H2 s1 s2 i;ac_rfl;refine .inr ⟨go cG,λaz H'=>∃aA eI,CS Z G1 H1 Ad aA eI az H'/\lN g tt eC g1 dz te (ds.drop (i+1)) aA eI λout=>P (.lst out),λaz H' n=>⟨ds.length-(i+1),by omega,rfl,cG,n⟩,λx H3 y=>?_⟩
  rfl';obtain⟨G3,d,x3,Pp,dv⟩:=yld x H3 cG y;rw[pZ Pp] at hl;ac_rfl;refine⟨G3,dQ,d,_,x3.sub,en2.mono x3.gg,dv,hl,λbo h1 fJ yX=>?_⟩;refine⟨G3,bo,_,x3.sub,yX,h1,λb hb G5 H5 x5=>?_⟩;have nI:=x3.trans x5;have xY:∀{G tu:Hp},Ext G2 H2 G tu->G Ad=none:=λx=>x.off Ad (by rw[tE];exact λz=>nomatch z) gA
  have A5:∀{G tu:Hp},Ext G2 H2 G tu->∀b,H1 b≠none->G1 b=none->G b=none:=λx b h1 h2=>x.off b (eB s3 h1) (off b h1 h2);cases b with
  |false=>exact cv ⟨bo,acc,⟨G5,ys,s1.trans nI.gg,nI.sub,s3.trans nI.hh,A5 nI,xY nI,nI.hh _ _ tE,bw.mono nI.gg,yX.mono x5.gg⟩,by simpa using hb⟩
  |true=>
   refine dr ⟨G5,bo,_,x5.sub,yX.mono x5.gg,(by simpa using hb),λes hes J1 G6 H6 x6 HR=>?_⟩
   have x:=nI.trans x6;have c6:CS Z G6 H6 Ad bo acc fJ H6->True:=λ_=>trivial
   refine⟨λk m rg H7=>m=es.length-k/\k<=es.length/\∃(J5:DN)(zW:List D),(∃(G:Hp)(ys:List V),aK G6 G/\aK G H7/\aK H1 H7/\(∀b,H1 b≠none->G1 b=none->G b=none)/\G Ad=none/\H7 Ad=some (.lst ys)/\DvAll Z G ys zW/\dk Z G rg J5)/\
    lcW g1 dz te (es.drop k) J5 zW λdQ pN=>lN g tt eC g1 dz te (ds.drop (i+1)) dQ pN λout=>P (.lst out),
    ⟨_,rfl,cM _,bo,acc,⟨G6,ys, .refl _,x.sub,s3.trans x.hh,A5 x,xY x,x.hh _ _ tE,bw.mono x.gg,(yX.mono x5.gg).mono x6.gg⟩,hes⟩,?_⟩
   intro k m rg H7 iB;rfl';obtain⟨rfl,hk,J5,zW,⟨G7,Mw,a1,a2,a3,a4,a5,a6,a7,a8⟩,KY⟩:=iB;ac_rfl;have g16:aK G1 G6:=s1.trans x.gg
   by_cases HH:k<es.length
   ·obtain⟨go1,_,Yy⟩:=HR G7 H7 a1 a2 k
    refine .inr ⟨go1 HH,λaz H'=>∃(aA:DN)(eI:List D),(∃(G:Hp)(ys:List V),aK G6 G/\aK G H'/\aK H1 H'/\(∀b,H1 b≠none->G1 b=none->G b=none)/\G Ad=none/\H' Ad=some (.lst ys)/\DvAll Z G ys eI/\dk Z G az aA)/\
     lcW g1 dz te (es.drop (k+1)) aA eI λdQ pN=>lN g tt eC g1 dz te (ds.drop (i+1)) dQ pN λout=>P (.lst out),λaz H' n=>⟨es.length-(k+1),by omega,rfl,HH,n⟩,λy H8 hy=>?_⟩
    rfl';obtain⟨G8,d8,x8,hd8,dv8⟩:=Yy y H8 HH hy;rw[pZ hd8] at KY;ac_rfl;refine⟨G8,J5,d8,_,x8.sub,a8.mono x8.gg,dv8,KY,λMA h9 σ9 KD=>?_⟩;refine⟨G8,MA,_,x8.sub,KD,h9,λb hb Q4 Ka J0=>?_⟩;have xx:=x8.trans J0;have oA:∀{G tu:Hp},Ext G7 H7 G tu->G Ad=none:=λx=>x.off Ad (by rw[a6];exact λz=>nomatch z) a5
    have oB:∀{G tu:Hp},Ext G7 H7 G tu->∀b,H1 b≠none->G1 b=none->G b=none:=λx b h1 h2=>x.off b (eB a3 h1) (a4 b h1 h2);cases b with
    |false=>exact cv ⟨MA,zW,⟨Q4,Mw,a1.trans xx.gg,xx.sub,a3.trans xx.hh,oB xx,oA xx,xx.hh _ _ a6,a7.mono xx.gg,KD.mono J0.gg⟩,by simpa using hb⟩
    |true=>
     refine dr ⟨Q4,MA,_,J0.sub,KD.mono J0.gg,(by simpa using hb),λd' gP v YI NX Yx Tz=>?_⟩
     have xz:=xx.trans Yx;refine⟨Mw,xz.hh _ _ a6,by rw[a7.length];exact gP.1,MA,_,⟨YI,Mw++ [v],a1.trans xz.gg,λb o e=>?_,λb o e=>?_,oB xz,oA xz,av,(a7.mono xz.gg).snoc Tz,(KD.mono J0.gg).mono Yx.gg⟩,gP.2⟩
     ·rw[aw (aR e (oA xz))];exact xz.sub _ _ e
     ·rw[aw (aR e hA)];exact(a3.trans xz.hh) _ _ e
   ·have e:es.drop k= []:=BJ (by omega)
    rw[e] at KY;exact .inl ⟨(HR G7 H7 a1 a2 k).2.1 (by omega),J5,zW,⟨G7,Mw,g16.trans a1,a2,a3,a4,a5,a6,a7,a8⟩,KY⟩
 ·have e:ds.drop i= []:=BJ (by omega)
  rfl';rw[e] at hl;obtain⟨G',x,dv⟩:=c.done x1 hA;obtain⟨G2,ys,s1,s2,_⟩:=c;ac_rfl;exact .inl ⟨(it G2 H2 s1 s2 i).2.1 (by omega),q _ hl _ G' H2 x dv⟩
theorem Ku(hc:X.calm=true)(c:cj X scope)(eJ:cQ scope X.N src NC)(hi:DI Z X t0 i0 wi)
  (hg:∀ex s H,DG Z (cg X scope NC ex s H) t0 g) (ht:∀ex s H,wz Z (cg X scope NC ex s H) f0 tt) (kZ:∀ex s H,DI Z (cg X scope NC ex s H) t1 i1 eC) (y4:∀ex s H,DG Z (cg X scope NC ex s H) t1 g1)
  (zb:∀ex s H,wz Z (cg X scope NC ex s H) f1 dz) (he:∀ex s H,DE Z (cg X scope NC ex s H) elt te)
  (hs:∀x,foldedSetIterable i0 X.env x=pure x:=by intro _;rfl) (mj:∀env x,foldedSetIterable i1 env x=pure x:=by intro _ _;rfl):
  DE Z X (.ListComp elt [⟨t0,i0,f0,0⟩,⟨t1,i1,f1,0⟩] scope pos) (GU wi g tt eC g1 dz te src):=(LL hc c eJ hi hg ht kZ y4 zb he hs mj).imp AY
end
inductive bT (R:V->D->List Addr->Prop):List V->List D->List Addr->Prop
 |nil:bT R [] [] []
 |cons {v:V} {vs:List V} {d:D} {ds:List D} {f fs:List Addr}:R v d f->bT R vs ds fs->bT R (v::vs) (d::ds) (f++fs)
def U4:D->Bool
 | .lst _=>true
 |_=>false
def Own(Z:DC)(G H:Hp):Nat->V->D->List Addr->Prop
 |0,v,d,fp=>Dv Z G v d/\fp= []
 |n+1,v,d,fp=>(∃a xs ds dP,v= .ref a/\d= .lst ds/\H a=some (.lst xs)/\fp=a::dP/\bT (Own Z G H n) xs ds dP)\/(1<=n/\∃a xs ds,v= .ref a/\d= .tup ds/\G a=some (.tup xs)/\bT (λv d f=>(U4 d=true/\Own Z G H n v d f)\/(U4 d=false/\Dv Z G v d/\f= [])) xs ds fp)\/(∃a φ,v= .ref a/\H a=some (.ext φ)/\fp= [a]/\((n=98/\∃b ns,d= .set b ns/\φ=ME b a ns)\/(n=97/\∃k,d= .x k/\EO G a φ k)))
theorem Own.lst{Z:DC}{G H:Hp}{n:Nat}{v:V}{ds:List D}{fp:List Addr}(o:Own Z G H (n+1) v (.lst ds) fp):∃a xs fY dP,v= .ref a/\D.lst ds= .lst fY/\H a=some (.lst xs)/\fp=a::dP/\bT (Own Z G H n) xs fY dP:=by
 rcases o with o| ⟨_,a,xs,ds,_,e,_⟩ | ⟨a,φ,_,_,_,⟨_,b,ns,e,_⟩ | ⟨_,k,e,_⟩⟩
 ·exact o
 ·cases e
 ·cases e
 ·cases e
theorem Own.xA{Z:DC}{G H:Hp}{v:V}{k:XD}{fp:List Addr}(o:Own Z G H 98 v (.x k) fp):∃a φ,v= .ref a/\H a=some (.ext φ)/\fp= [a]/\EO G a φ k:=by
 rcases o with ⟨_,_,_,_,_,e,_⟩ | ⟨_,a,xs,ds,_,e,_⟩ | ⟨a,φ,h1,h2,h3,⟨_,b,ns,e,e2⟩ | ⟨_,k,e,h4⟩⟩
 ·cases e
 ·cases e
 ·cases e
 ·cases e;exact⟨a,φ,h1,h2,h3,h4⟩
theorem Own.one{Z:DC}{G H:Hp}{v:V}{d:D}{fp:List Addr}(o:Own Z G H 1 v d fp):∃a xs ds dP,v= .ref a/\d= .lst ds/\H a=some (.lst xs)/\fp=a::dP/\bT (Own Z G H 0) xs ds dP:=by
 rcases o with o| ⟨z,_⟩ | ⟨_,_,_,_,_,⟨z,_⟩ | ⟨z,_⟩⟩
 ·exact o
 ·exact absurd z (by decide)
 ·exact absurd z (by decide)
 ·exact absurd z (by decide)
theorem bT.imp{R R':V->D->List Addr->Prop}{vs:List V}{ds:List D}{fp:List Addr}(o:bT R vs ds fp)(h:∀v d f,(∀b∈f,b∈fp)->R v d f->R' v d f):bT R' vs ds fp:=by
 induction o with
 |nil=>exact .nil
 |cons a _ ih=>exact .cons (h _ _ _ (λb hb=>kM _ hb) a) (ih λv d f hf r=>h v d f (λb hb=>fN _ (hf b hb)) r)
theorem bT.length{R:V->D->List Addr->Prop}{vs:List V}{ds:List D}{fp:List Addr}(o:bT R vs ds fp):vs.length=ds.length:=by
 induction o with
 |nil=>rfl
 |cons _ _ ih=>exact congrArg (·+1) ih
section
variable {Z:DC} {G G' H H':Hp}
theorem Own.keep{n:Nat}:∀{v:V}{d:D}{fp:List Addr},Own Z G H n v d fp->aK G G'->(∀b∈fp,H' b=H b)->Own Z G' H' n v d fp:=by
 induction n with
 |zero=>exact λh s _=>⟨h.1.mono s,h.2⟩
 |succ n ih=>
  intro v d fp h s k
  rcases h with ⟨a,xs,ds,dP,hv,hd,ha,hf,ho⟩ | ⟨h1,a,xs,ds,hv,hd,ha,ho⟩ | ⟨a,φ,hv,ha,hf,hx⟩
  ·subst hf
   exact .inl ⟨a,xs,ds,dP,hv,hd,by rw[k a (b6 ..)];exact ha,rfl,ho.imp λv d f hb r=>ih r s λb q=>k b (bP _ (hb b q))⟩
  ·exact .inr (.inl ⟨h1,a,xs,ds,hv,hd,s _ _ ha,ho.imp λv d f hb r=>r.imp (λr=>⟨r.1,ih r.2 s λb q=>k b (hb b q)⟩) λr=>⟨r.1,r.2.1.mono s,r.2.2⟩⟩)
  ·exact .inr (.inr ⟨a,φ,hv,by rw[k a (by rw[hf];exact b6 ..)];exact ha,hf,hx.imp id λ⟨h1,k,h2,h3⟩=>⟨h1,k,h2,h3.mono s⟩⟩)
theorem bT.Np{R:V->D->List Addr->Prop}{vs:List V}{ds:List D}{fp:List Addr}(o:bT R vs ds fp)(k:∀v d f,(∀b∈f,b∈fp)->R v d f->Dv Z G' v d):DvAll Z G' vs ds:=by
 induction o with
 |nil=>exact .nil
 |cons a _ ih=>exact .cons (k _ _ _ (λb hb=>kM _ hb) a) (ih λv d f hf r=>k v d f (λb hb=>fN _ (hf b hb)) r)
theorem Own.Nm{n:Nat}(o:HO->Prop)(ol:∀xs,o (.lst xs))(oe:∀φ,o (.ext φ)):∀{v:V}{d:D}{fp:List Addr},Own Z G H n v d fp->aK G G'->(∀b∈fp,∀x,o x->H b=some x->G' b=some x)->Dv Z G' v d:=by
 induction n with
 |zero=>exact λh s _=>h.1.mono s
 |succ n ih=>
  intro v d fp h s k
  rcases h with ⟨a,xs,ds,dP,hv,hd,ha,hf,ho⟩ | ⟨_,a,xs,ds,hv,hd,ha,ho⟩ | ⟨a,φ,hv,ha,hf,hx⟩
  ·subst hf hv hd
   exact .lst (k a (b6 ..) _ (ol _) ha) (ho.Np λv d f hf r=>ih r s λb hb=>k b (bP _ (hf b hb)))
  ·subst hv hd
   exact .tup (s _ _ ha) (ho.Np λv d f hf r=>r.elim (λr=>ih r.2 s λb hb=>k b (hf b hb)) λr=>r.2.1.mono s)
  ·subst hv hf
   rcases hx with ⟨_,b,ns,hd,hp⟩ | ⟨_,kx,hd,hp⟩
   ·subst hd hp
    exact .set (k a (b6 ..) _ (oe _) ha)
   ·subst hd
    exact .x (k a (b6 ..) _ (oe _) ha) (hp.mono s)
theorem Own.dv{n:Nat}{v:V}{d:D}{fp:List Addr}(h:Own Z G H n v d fp)(s:aK G G')(k:∀b∈fp,∀o,H b=some o->G' b=some o):Dv Z G' v d:=h.Nm (λ_=>True) (λ_=>trivial) (λ_=>trivial) s λb hb x _ e=>k b hb x e
theorem bT.flat{vs:List V}{ds:List D}{fp:List Addr}(o:bT (Own Z G H 0) vs ds fp):DvAll Z G vs ds/\fp= []:=by
 induction o with
 |nil=>exact⟨.nil,rfl⟩
 |cons a _ ih=>exact⟨.cons a.1 ih.1,by rw[a.2,ih.2];rfl⟩
theorem DvAll.own{vs:List V}{ds:List D}(h:DvAll Z G vs ds):bT (Own Z G H 0) vs ds []:=h.ind (p:=λvs ds=>bT (Own Z G H 0) vs ds []) .nil λa _ b=> .cons (f:= []) (fs:= []) ⟨a,rfl⟩ b
theorem Dv.flat{v:V}{d:D}(h:Dv Z G v d)(f:eS d=true):Dv Z G' v d:=by
 cases h with
 |bb=>exact .bb
 |bl b=>exact .bl b
 |int i=>exact .int i
 |str x k=>exact .str x k
 |_=>cases f
end
mutual
def mO:D->Bool
 | .bb=>true
 | .bl _=>true
 | .int _=>true
 | .str _=>true
 | .tup l=>Ep l
 |_=>false
def Ep:List D->Bool
 | []=>true
 |d::ds=>mO d&&Ep ds
end
theorem Dv.mO{Z:DC}{G G':Hp}(k:∀b xs,G b=some (.tup xs)->G' b=some (.tup xs)){v:V}{d:D}(h:Dv Z G v d):L2.mO d=true->Dv Z G' v d:=by
 have no:∀{p:Prop}{d:D},L2.mO d=false->L2.mO d=true->p:=λa b=>by rw[a] at b;cases b
 refine Dv.rec (motive_1:=λv d _=>L2.mO d=true->Dv Z G' v d) (motive_2:=λvs ds _=>Ep ds=true->DvAll Z G' vs ds) (λ_=> .bb) (λb _=> .bl b) (λi _=> .int i) (λx h _=> .str x h) (λ_ _ _=>no (by rw[L2.mO]<;>simp)) (λh _ ih f=> .tup (k _ _ h) (ih (by rw[L2.mO] at f;exact f))) (λ_=>no (by rw[L2.mO]<;>simp)) (λ_=>no (by rw[L2.mO]<;>simp)) (λ_ _=>no (by rw[L2.mO]<;>simp)) (λ_ _ _ _ _ _=>no (by rw[L2.mO]<;>simp)) (λ_=>no (by rw[L2.mO]<;>simp)) (λ_ _=>no (by rw[L2.mO]<;>simp)) (λ_ _ _ _=>no (by rw[L2.mO]<;>simp)) (λ_=> .nil) (λ_ _ i1 i2 f=>?_) h
 rw[Ep,ma] at f;exact .cons (i1 f.1) (i2 f.2)
def IH:HO->Bool
 | .lst _=>true
 | .ext _=>true
 |_=>false
theorem Own.dvL{Z:DC}{G G' H:Hp}{n:Nat}{v:V}{d:D}{fp:List Addr}(h:Own Z G H n v d fp)(s:aK G G')(k:∀b∈fp,∀o,IH o=true->H b=some o->G' b=some o):Dv Z G' v d:=h.Nm (λo=>IH o=true) (λ_=>rfl) (λ_=>rfl) s k
structure Bs where
 G₀:Hp
 H₀:Hp
 Gf:Hp
structure SIx (Z:DC) (B:Bs) (md:List Nat) (ρ:DN) (σ:St) (H G:Hp) (fp:Nat->List Addr):Prop where
 ex:Ext B.G₀ B.H₀ G H
 fl:aK B.Gf G
 len:ρ.length=σ.length
 at_:∀(i:Nat)(d:D),ρ[i]? =some (some d)->∃v,σ[i]? =some (some v)/\Own Z G H (md.getD i 0) v d (fp i)
 nd:∀i,(fp i).Nodup
 ap:∀i j b,i≠j->b∈fp i->b∉fp j
 nw:∀i b,b∈fp i->B.H₀ b=none/\H b≠none/\G b=none
def SI(Z:DC)(B:Bs)(md:List Nat)(ρ:DN)(σ:St)(H:Hp):Prop:=∃G fp,SIx Z B md ρ σ H G fp
def cJ:List Nat->DN->DN
 |_,[]=> []
 | [],o::ρ=>o::ρ
 |0::md,o::ρ=>o::cJ md ρ
 | (_+1)::md,_::ρ=>none::cJ md ρ
theorem pE:∀(md:List Nat)(ρ:DN),(cJ md ρ).length=ρ.length
 |md,[]=>by cases md<;>rfl
 | [],o::ρ=>rfl
 |0::md,o::ρ=>by rw[cJ,cw,pE md ρ,cw]
 | (_+1)::md,_::ρ=>by rw[cJ,cw,pE md ρ,cw]
theorem rX{d:D}:∀(md:List Nat)(ρ:DN)(i:Nat),(cJ md ρ)[i]? =some (some d)->md.getD i 0=0/\ρ[i]? =some (some d)
 |md,[],i,h=>by cases md<;>simp[cJ] at h
 | [],o::ρ,i,h=>⟨by simp,h⟩
 |0::md,o::ρ,0,h=>⟨rfl,by simpa [cJ] using h⟩
 |0::md,o::ρ,i+1,h=>by
  rw[cJ,we] at h;obtain⟨a,b⟩:=rX md ρ i h;exact⟨by rw[qU];exact a,by rw[we];exact b⟩
 | (_+1)::md,_::ρ,0,h=>by simp[cJ] at h
 | (_+1)::md,_::ρ,i+1,h=>by
  rw[cJ,we] at h;obtain⟨a,b⟩:=rX md ρ i h;exact⟨by rw[qU];exact a,by rw[we];exact b⟩
def BD(md:List Nat):Bool->DN->DN
 |true,ρ=>ρ
 |false,ρ=>cJ md ρ
def nW:Bool->D->Prop
 |true,d=>mO d=true
 |false,_=>True
section
variable {Z:DC} {B:Bs} {md:List Nat} {ρ:DN} {σ:St} {H G:Hp} {fp:Nat->List Addr}
theorem C8{i:Nat}{d:D}(h:(cJ md ρ)[i]? =some (some d)):md.getD i 0=0/\ρ[i]? =some (some d):=rX md ρ i h
theorem SIx.qf(S:SIx Z B md ρ σ H G fp):dk Z G σ (cJ md ρ):=by
 refine⟨by rw[pE];exact S.len,λi d h=>?_⟩
 obtain⟨z,h⟩:=C8 h;obtain⟨v,hv,o⟩:=S.at_ i d h;rw[z] at o;exact⟨v,hv,o.1⟩
theorem SIx.Aq(S:SIx Z B md ρ σ H G fp):dk Z H σ ρ:=by
 refine⟨S.len,λi d h=>?_⟩;obtain⟨v,hv,o⟩:=S.at_ i d h;exact⟨v,hv,o.dv S.ex.sub λb _ u e=>e⟩
theorem SIx.grow{G' H':Hp}(S:SIx Z B md ρ σ H G fp)(x:Ext G H G' H'):SIx Z B md ρ σ H' G' fp where
 ex:=S.ex.trans x
 fl:=S.fl.trans x.gg
 len:=S.len
 at_:=λi d h=>by
  obtain⟨v,hv,o⟩:=S.at_ i d h;refine⟨v,hv,o.keep x.gg λb hb=>?_⟩;cases e:H b with
  |none=>exact absurd e (S.nw i b hb).2.1
  |some u=>exact x.hh _ _ e
 nd:=S.nd
 ap:=S.ap
 nw:=λi b hb=>let ⟨h1,h2,h3⟩:=S.nw i b hb;⟨h1,eB x.hh h2,x.off b h2 h3⟩
theorem Ext.all{G' H':Hp}(s:aK G H)(x:Ext H H G' H'):Ext G H G H':=⟨.refl _,s.trans x.hh,x.hh,λ_ _ h=>h⟩
open Classical in
noncomputable def iA(G H:Hp)(fp:Nat->List Addr):Hp:=λb=>if ∃i,b∈fp i then(match H b with|some (.lst xs)=>some (.lst xs) |some (.ext φ)=>some (.ext φ) |_=>none) else G b
open Classical in
noncomputable def rL(G:Hp)(fp:Nat->List Addr):Hp:=λb=>if ∃i,b∈fp i then none else G b
theorem Gj{b:Addr}{o:HO}(i:Nat)(h:b∈fp i)(ho:IH o=true)(e:H b=some o):iA G H fp b=some o:=by
 unfold iA;rw[if_pos ⟨i,h⟩,e];cases o<;>first|rfl|cases ho
theorem pL{b:Addr}(h:¬∃i,b∈fp i):iA G H fp b=G b:=if_neg h
theorem SIx.Nv(S:SIx Z B md ρ σ H G fp):aK G (iA G H fp)/\aK (iA G H fp) H/\dk Z (iA G H fp) σ ρ:=by
 have s1:aK G (iA G H fp):=λb o e=>by
  by_cases h:∃i,b∈fp i
  ·obtain⟨i,hi⟩:=h
   rw[(S.nw i b hi).2.2] at e;cases e
  ·rw[pL h];exact e
 refine⟨s1,λb o e=>?_,S.len,λi d h=>?_⟩
 ·by_cases h:∃i,b∈fp i
  ·unfold iA at e
   rw[if_pos h] at e
   split at e
   ·next xs hx=>rw[hx];exact e
   ·next φ hx=>rw[hx];exact e
   ·cases e
  ·rw[pL h] at e;exact S.ex.sub _ _ e
 ·obtain⟨v,hv,o⟩:=S.at_ i d h
  exact⟨v,hv,o.dvL s1 λb hb u hu hx=>Gj i hb hu hx⟩
theorem SIx.WR{G' H':Hp}(S:SIx Z B md ρ σ H G fp)(x:Ext (iA G H fp) H G' H'):Ext G H (rL G' fp) H'/\∀b xs,G' b=some (.tup xs)->rL G' fp b=some (.tup xs):=by
 obtain⟨s1,s2,_⟩:=S.Nv;refine⟨⟨λb o e=>?_,λb o e=>?_,x.hh,λb hb hg=>?_⟩,λb xs e=>?_⟩
 ·have h:¬∃i,b∈fp i:=by
   rintro⟨i,hi⟩;rw[(S.nw i b hi).2.2] at e;cases e
  unfold rL;rw[if_neg h];exact x.gg _ _ (s1 _ _ e)
 ·unfold rL at e
  split at e
  ·cases e
  ·exact x.sub _ _ e
 ·unfold rL
  split
  ·rfl
  ·next h=>exact x.off b hb (by rw[pL h];exact hg)
 ·have h:¬∃i,b∈fp i:=by
   rintro⟨i,hi⟩;have hb:=(S.nw i b hi).2.1;cases hw:iA G H fp b with
   |none=>rw[x.off b hb hw] at e;cases e
   |some o=>
    have:=x.gg _ _ hw
    rw[e] at this;cases Option.some.inj this;unfold iA at hw;rw[if_pos ⟨i,hi⟩] at hw
    split at hw<;>cases hw
  unfold rL;rw[if_neg h];exact e
theorem SIx.ev{t:bg}{P:D->Prop}{Q:VK}(S:SIx Z B md ρ σ H G fp)(m:Bool)(h:t (BD md m ρ) P)
  (hq:∀d,P d->nW m d/\∀v G' H',SIx Z B md ρ σ H' G' fp->Ext G H G' H'->Dv Z G' v d->Q v H'):dY Z t σ H Q:=by
 cases m with
 |false=>exact⟨G,_,P,S.ex.sub,S.qf,h,λd hd v G' H' x dv=>(hq d hd).2 v G' H' (S.grow x) x dv⟩
 |true=>
  obtain⟨s1,s2,e⟩:=S.Nv;refine⟨iA G H fp,_,P,s2,e,h,λd hd v G' H' x dv=>?_⟩;obtain⟨x',k⟩:=S.WR x;exact(hq d hd).2 v _ H' (S.grow x') x' (dv.mO k (hq d hd).1)
theorem SIx.TK{t:dS}{P:Bool->Prop}{Q:Bool->Hp->Prop}(S:SIx Z B md ρ σ H G fp)(h:t ρ P)(hq:∀b,P b->∀H',SIx Z B md ρ σ H' G fp->Q b H'):liftT Z t σ H Q:=
 ⟨H,ρ,P, .refl _,S.Aq,h,λb hb G' H' x=>hq b hb H' (S.grow (Ext.all S.ex.sub x))⟩
theorem SIx.nA{i:Nat}{v:V}{d:D}(S:SIx Z B md ρ σ H G fp)(hm:md.getD i 0=0)(dv:Dv Z G v d):SIx Z B md (ρ.set i (some d)) (σ.set i (some v)) H G (λj=>if j=i then[] else fp j) where
 ex:=S.ex
 fl:=S.fl
 len:=by rw[dB,dB];exact S.len
 at_:=λj c h=>by
  by_cases z:i=j
  ·subst z
   by_cases hi:i<ρ.length
   ·rw[iH hi] at h
    cases Option.some.inj h;exact⟨v,iH (by rw[<-S.len];exact hi),by rw[hm,if_pos rfl];exact⟨dv,rfl⟩⟩
   ·rw[wd (gL hi),fi (gL hi)] at h;cases h
  ·rw[jv z] at h ⊢
   rw[if_neg (Ne.symm z)];exact S.at_ j c h
 nd:=λj=>by split;exact ic;exact S.nd j
 ap:=λj k b ne hj hk=>by
  split at hj
  ·cases hj
  ·split at hk
   ·cases hk
   ·exact S.ap j k b ne hj hk
 nw:=λj b hb=>by
  split at hb
  ·cases hb
  ·exact S.nw j b hb
theorem SIx.Jr{i n:Nat}{v:V}{d:D}{f:List Addr}(S:SIx Z B md ρ σ H G fp)(hm:md.getD i 0=n)(o:Own Z G H n v d f)(nd:f.Nodup)(nw:∀b∈f,B.H₀ b=none/\H b≠none/\G b=none)(ap:∀b∈f,∀j,j≠i->b∉fp j):
  SIx Z B md (ρ.set i (some d)) (σ.set i (some v)) H G (λj=>if j=i then f else fp j) where
 ex:=S.ex
 fl:=S.fl
 len:=by rw[dB,dB];exact S.len
 at_:=λj c h=>by
  by_cases z:i=j
  ·subst z
   by_cases hi:i<ρ.length
   ·rw[iH hi] at h
    cases Option.some.inj h;exact⟨v,iH (by rw[<-S.len];exact hi),by rw[hm,if_pos rfl];exact o⟩
   ·rw[wd (gL hi),fi (gL hi)] at h;cases h
  ·rw[jv z] at h ⊢
   rw[if_neg (Ne.symm z)];exact S.at_ j c h
 nd:=λj=>by split;exact nd;exact S.nd j
 ap:=λj k b ne hj hk=>by
  split at hj
  ·next z=>
   rw[if_neg (λw=>ne (z.trans w.symm))] at hk;exact ap b hj k (λw=>ne (z.trans w.symm)) hk
  ·next z=>
   split at hk
   ·exact ap b hk j z hj
   ·exact S.ap j k b ne hj hk
 nw:=λj b hb=>by
  split at hb
  ·exact nw b hb
  ·exact S.nw j b hb
noncomputable def plus(G H:Hp)(F:Addr->Prop):Hp:=λb=>open Classical in if F b then H b else G b
theorem kF{F:Addr->Prop}{b:Addr}(h:F b):plus G H F b=H b:=by unfold plus;rw[if_pos h]
theorem gT{F:Addr->Prop}{b:Addr}(h:¬F b):plus G H F b=G b:=by unfold plus;rw[if_neg h]
theorem i6{F:Addr->Prop}(s:aK G H):aK (plus G H F) H:=λb o e=>by
 by_cases h:F b
 ·rw[kF h] at e;exact e
 ·rw[gT h] at e;exact s _ _ e
theorem fb{F:Addr->Prop}(s:aK G H):aK G (plus G H F):=λb o e=>by
 by_cases h:F b
 ·rw[kF h];exact s _ _ e
 ·rw[gT h];exact e
theorem SIx.evR{t:bg}{P:D->Prop}{Q:VK}(S:SIx Z B md ρ σ H G fp)(h:t ρ P)(hq:∀d,P d->∀v G' H',Ext B.G₀ B.H₀ G' H'->Dv Z G' v d->Q v H'):dY Z t σ H Q:=by
 let F:Addr->Prop:=λb=>∃i,b∈fp i
 have s:=S.ex.sub
 have x0:Ext B.G₀ B.H₀ (plus G H F) H:=⟨S.ex.gg.trans (fb s),i6 s,S.ex.hh,λb hb hg=>by
  rw[gT (λ⟨i,hi⟩=>hb (S.nw i b hi).1)];exact S.ex.off b hb hg⟩
 refine⟨plus G H F,ρ,P,i6 s,⟨S.len,λi d h=>?_⟩,h,λd hd v G' H' x dv=>hq d hd v G' H' (x0.trans x) dv⟩;obtain⟨v,hv,o⟩:=S.at_ i d h;exact⟨v,hv,o.dv (fb s) λb hb u e=>by rw[kF ⟨i,hb⟩];exact e⟩
end
structure gu where
 nx:DN->Prop
 rt:D->Prop
 bk:DN->Prop:=λ_=>False
 ct:DN->Prop:=λ_=>False
 xc:DN->D->Prop:=λ_ _=>False
abbrev cN:=gu->DN->Prop
structure Meets (Z:DC) (X:Cx) (B:Bs) (md:List Nat) (rn:Nat) (E:gu) (Dn:Ends):Prop where
 nx:∀ρ,E.nx ρ->∀σ H,SI Z B md ρ σ H->Dn.nx σ H
 rt:∀d,E.rt d->∀v f G' H',Ext B.G₀ B.H₀ G' H'->Own Z G' H' rn v d f->f.Nodup->(∀b∈f,B.H₀ b=none/\H' b≠none/\G' b=none)->Dn.rt v H'
 bk:∀ρ,E.bk ρ->∀σ H,SI Z B md ρ σ H->Dn.bk σ H
 ct:∀ρ,E.ct ρ->∀σ H,SI Z B md ρ σ H->Dn.ct σ H
 xc:∀ρ d,E.xc ρ d->∀σ H G fp a,SIx Z B md ρ σ H G fp->Dv Z G (.ref a) d->Rb X σ H a
def pb(Z:DC)(X:Cx)(md:List Nat)(rn:Nat)(t:cN):TS:=λDn σ H=>∃(B:Bs)(ρ:DN)(E:gu),SI Z B md ρ σ H/\t E ρ/\Meets Z X B md rn E Dn
def DSt(Z:DC)(X:Cx)(md:List Nat)(rn:Nat)(st:Stmt)(t:cN):Prop:=PS X st (pb Z X md rn t)
def pM(Z:DC)(X:Cx)(md:List Nat)(rn:Nat)(Ml:List Stmt)(t:cN):Prop:=me X Ml (pb Z X md rn t)
theorem PS.imp{X:Cx}{st:Stmt}{t t':TS}(h:PS X st t)(f:∀D σ H,t' D σ H->t D σ H):PS X st t':=λpins s σ H D I q=>h pins s σ H D I (f _ _ _ q)
theorem me.imp{X:Cx}{st:List Stmt}{t t':TS}(h:me X st t)(f:∀D σ H,t' D σ H->t D σ H):me X st t':=λpins s σ H D I q=>h pins s σ H D I (f _ _ _ q)
section
variable {Z:DC} {X:Cx} {md:List Nat} {rn:Nat} {st:Stmt} {Ml:List Stmt} {t u:cN} {e:Expr} {te:bg} {pos:Pos}
def OO:cN:=λE ρ=>E.nx ρ
def mF(t u:cN):cN:=λE ρ=>t {E with nx:=u E} ρ
theorem aX:pM Z X md rn [] OO:=by
 refine Bf.imp λD σ H gX=>?_;obtain⟨B,ρ,E,S,h,M⟩:=gX;exact M.nx _ h _ _ S
theorem ah(h1:DSt Z X md rn st t)(h2:pM Z X md rn Ml u):pM Z X md rn (st::Ml) (mF t u):=by
 refine(gU h1 h2).imp λD σ H gX=>?_;rfl';obtain⟨B,ρ,E,S,h,M⟩:=gX;ac_rfl;exact⟨B,ρ,_,S,h,⟨λaA h' az H' S'=>⟨B,aA,E,S',h',M⟩,M.rt,M.bk,M.ct,M.xc⟩⟩
theorem ao(h1:DSt Z X md rn st t):pM Z X md rn [st] t:=qE h1
theorem iU:DSt Z X md rn st (λ_ _=>False):=by
 refine FQ.imp λD σ H gX=>?_;obtain⟨B,ρ,E,S,h,M⟩:=gX;exact h
def Nk(te:bg):cN:=λE ρ=>te ρ E.rt
theorem aL(he:DE Z X e te):DSt Z X md 0 (.Return (some e) pos) (Nk te):=by
 refine(qC he).imp λD σ H gX=>?_;rfl';obtain⟨B,ρ,E,⟨G,fp,S⟩,h,M⟩:=gX;ac_rfl;exact S.evR h λd hd v G' H' x dv=>M.rt d hd v [] G' H' x ⟨dv,rfl⟩ ic (λb hb=>by cases hb)
def OS(i:Nat):cN:=λE ρ=>∃d,ρ[i]? =some (some d)/\E.rt d
theorem Ao(i:Nat){x:Str}{px:Pos}(hm:md.getD i 0=rn:=by rfl)(hi:X.N[i]? =some x:=by rfl)(hv:kT X.env.scope x:=by first|exact Or.inl rfl|exact Or.inr (Or.inl rfl) |exact Or.inr (Or.inr rfl))(hd:(x==("__debug__":Str))=false:=by decide)(dG:(x==("__classdict__":Str))=false:=by decide):
  DSt Z X md rn (.Return (some (.Name x px)) pos) (OS i):=by
 refine(qC (zC hi hv hd dG)).imp λD σ H gX=>?_;rfl';obtain⟨B,ρ,E,⟨G,fp,S⟩,⟨d,hd,h⟩,M⟩:=gX;obtain⟨v,hv,o⟩:=S.at_ i d hd;rw[hm] at o;ac_rfl;exact⟨v,hv,M.rt d h v (fp i) G H S.ex o (S.nd i) (S.nw i)⟩
def SD(c:dS)(t u:cN):cN:=λE ρ=>c ρ λb=>if b=true then t E ρ else u E ρ
theorem bM{c:Expr}{a b:List Stmt}{tc:dS}(hc:DT Z X c tc)(ha:pM Z X md rn a t)(hb:pM Z X md rn b u):DSt Z X md rn (.If c a b pos) (SD tc t u):=by
 refine(Jc hc ha hb).imp ?_;intro D σ H aJ;rfl';obtain⟨B,ρ,E,⟨G,fp,S⟩,h,M⟩:=aJ;ac_rfl;refine S.TK h λb hb H' S'=>?_;cases b with
 |true=>exact dr ⟨B,ρ,E,⟨G,fp,S'⟩,(hb),M⟩
 |false=>exact cv ⟨B,ρ,E,⟨G,fp,S'⟩,(hb),M⟩
def Ah(md:List Nat)(m:Bool)(i:Nat)(te:bg):cN:=λE ρ=>te (BD md m ρ) λd=>nW m d/\E.nx (ρ.set i (some d))
theorem aH(m:Bool)(i:Nat){x:Str}{pos':Pos}(hN:X.N.Nodup)(he:DE Z X e te)(hm:md.getD i 0=0:=by rfl)(hi:X.N[i]? =some x:=by rfl)(hx:Loc X.env.scope x:=by first|exact Or.inl rfl|exact Or.inr rfl)(hs:swapsWith e (some (.Name x pos')) pos.line X.env=pure false:=by rfl)
  (hf:X.fn x=true\/X.env.scope.names.lookup x=some .local:=by first|exact .inl rfl|exact .inr rfl|assumption):DSt Z X md rn (.Assign [.Name x pos'] e pos) (Ah md m i te):=by
 refine(lB hN hi hx he hs hf).imp ?_;intro D σ H aJ;rfl';obtain⟨B,ρ,E,⟨G,fp,S⟩,h,M⟩:=aJ;ac_rfl;exact S.ev m h λd hd=>⟨hd.1,λv G' H' S' x dv=>M.nx _ hd.2 _ _ ⟨G',_,S'.nA hm dv⟩⟩
theorem xo(i:Nat){x:Str}{px jM:Pos}{tg iter elt:Expr}{ifs:List Expr}{scope:Scope}{NC:List Str}{src:List (Option Nat)}{wi:g5}{g:eO}{tt:dS}(hc:X.calm=true)(hN:X.N.Nodup)(c:cj X scope)(eJ:cQ scope X.N src NC)(hi:DI Z X tg iter wi)
  (hg:∀ex s H,DG Z (cg X scope NC ex s H) tg g) (ht:∀ex s H,wz Z (cg X scope NC ex s H) ifs tt) (he:∀ex s H,DE Z (cg X scope NC ex s H) elt te)
  (jU:swapsWith (.ListComp elt [⟨tg,iter,ifs,0⟩] scope pos) (some (.Name x px)) jM.line X.env=pure true:=by rfl) (hm:md.getD i 0=0:=by rfl) (gJ:X.N[i]? =some x:=by rfl) (hx:Loc X.env.scope x:=by first|exact Or.inl rfl|exact Or.inr rfl)
  (hf:X.fn x=true\/X.env.scope.names.lookup x=some .local:=by first|exact .inl rfl|exact .inr rfl|assumption)
  (hs:∀x,foldedSetIterable iter X.env x=pure x:=by intro _;rfl):DSt Z X md rn (.Assign [.Name x px] (.ListComp elt [⟨tg,iter,ifs,0⟩] scope pos) jM) (Ah md false i (OM wi g tt te src)):=by
 refine(ye hc hN gJ hx c eJ hi hg ht he jU hf hs).imp ?_;intro D σ H aJ;rfl';obtain⟨B,ρ,E,⟨G,fp,S⟩,h,M⟩:=aJ;ac_rfl;refine Ek σ H _ (S.ev false h λd hd=>⟨hd.1,λv G' H' S' x dv=>M.nx _ hd.2 _ _ ⟨G',_,S'.nA hm dv⟩⟩)
end
end L2
namespace L2
open PySem PySem.Spec PyProof.Rows
section
variable {Z:DC} {X:Cx} {B:Bs} {md:List Nat} {rn:Nat} {ρ:DN} {σ:St} {H G:Hp} {fp:Nat->List Addr}
def Ei(Z:DC)(md:List Nat)(g:eO):TG:=λv σ H Q=>∃(B:Bs)(ρ:DN)(d:D)(P:DN->Prop)(G:Hp)(fp:Nat->List Addr),SIx Z B md ρ σ H G fp/\Dv Z G v d/\g d ρ P/\∀aA,P aA->∀az yZ,SIx Z B md aA az H G yZ->Q az H
def Ia(Z:DC)(md:List Nat)(g:lL):wB:=λvs σ H Q=>∃(B:Bs)(ρ:DN)(ds:List D)(P:DN->Prop)(G:Hp)(fp:Nat->List Addr),SIx Z B md ρ σ H G fp/\DvAll Z G vs ds/\g ds ρ P/\∀aA,P aA->∀az yZ,SIx Z B md aA az H G yZ->Q az H
def EM(Z:DC)(X:Cx)(md:List Nat)(e:Expr)(g:eO):Prop:=PG X e (Ei Z md g)
def DR(Z:DC)(X:Cx)(md:List Nat)(es:List Expr)(g:lL):Prop:=yJ X es (Ia Z md g)
theorem aB(i:Nat){x:Str}{pos:Pos}(hN:X.N.Nodup)(hm:md.getD i 0=0:=by rfl)(hi:X.N[i]? =some x:=by rfl)(hx:Loc X.env.scope x:=by first|exact Or.inl rfl|exact Or.inr rfl)(hf:X.fn x=true\/X.env.scope.names.lookup x=some .local:=by first|exact .inl rfl|exact .inr rfl|assumption):EM Z X md (.Name x pos) (pX i):=by
 refine(Bc hN hi hx hf).imp λv σ H Q DH=>?_;rfl';obtain⟨B,ρ,d,P,G,fp,S,dv,h,q⟩:=DH;ac_rfl;exact q _ h _ _ (S.nA hm dv)
theorem bK:DR Z X md [] Hd:=by
 refine Bd.imp λv σ H Q DH=>?_;rfl';obtain⟨B,ρ,ds,P,G,fp,S,dv,⟨h,p⟩,q⟩:=DH;subst h;cases dv;ac_rfl;exact⟨rfl,q _ p _ _ S⟩
theorem aF{e:Expr}{es:List Expr}{g:eO}{gs:lL}(h1:EM Z X md e g)(h2:DR Z X md es gs)(hs:(assignEach (e::es) X.env).map (·.2)=assign e X.env::(assignEach es X.env).map (·.2):=by rfl):DR Z X md (e::es) (D6 g gs):=by
 refine(yb h1 h2 hs).imp ?_;intro v σ H Q iB;rfl';obtain⟨B,ρ,ds,P,G,fp,S,dv,h,q⟩:=iB;ac_rfl;cases dv with
 |nil=>exact h.elim
 |cons a as=>exact⟨_,_,rfl,B,ρ,_,_,G,fp,S,a,h,λaA hp az yZ S'=>⟨B,aA,_,P,G,yZ,S',as,hp,q⟩⟩
theorem cU(n:Nat){es:List Expr}{k:Nat}{pos:Pos}{gs:lL}(hc:X.calm=true)(h:DR Z X md es gs)(hn:(assignEach es X.env).length=n:=by rfl)(kz:(assignEach es X.env).findIdx? (·.1)=none:=by rfl):EM Z X md (.Tuple es k pos) (He n gs):=by
 refine(Ew hc h hn kz).imp ?_;rintro v σ H Q ⟨B,ρ,d,P,G,fp,S,dv,h,q⟩;cases dv<;>first|exact h.elim|skip
 rename_i a xs ds ha es
 exact⟨a,xs,rfl,gq.of (S.ex.sub _ _ ha),by rw[es.length];exact h.1,B,ρ,_,P,G,fp,S,es,h.2,q⟩
def SA(md:List Nat)(te:bg)(g:eO):cN:=λE ρ=>te (cJ md ρ) λd=>g d ρ E.nx
theorem yU{tg e:Expr}{te:bg}{g:eO}{pos:Pos}(he:DE Z X e te)(hg:EM Z X md tg g)(hs:swapsWithSole [tg] e pos.line X.env=pure false:=by rfl)(hw:swappedStores [tg] e X.env=pure none:=by rfl)
  (h1:(assignEach [tg] X.env).map (·.2)= [assign tg X.env]:=by rfl):DSt Z X md rn (.Assign [tg] e pos) (SA md te g):=by
 refine(nY he hg hs hw h1).imp ?_;intro D σ H aJ;rfl';obtain⟨B,ρ,E,⟨G,fp,S⟩,h,M⟩:=aJ;ac_rfl;exact S.ev false h λd hd=>⟨trivial,λv G' H' S' x dv=>⟨B,ρ,d,E.nx,G',fp,S',dv,hd,λaA h' az yZ S2=>M.nx _ h' _ _ ⟨G',yZ,S2⟩⟩⟩
def ko(g:eO)(tb:cN)(E:gu):List D->DN->Prop
 | [],ρ=>E.nx ρ
 |x::xs,ρ=>g x ρ λbo=>tb {nx:=ko g tb E xs,ct:=ko g tb E xs,bk:=E.nx,rt:=E.rt,xc:=E.xc} bo
def Nd(md:List Nat)(m:Bool)(wi:g5)(g:eO)(tb:cN):cN:=λE ρ=>wi (BD md m ρ) λds=>ko g tb E ds ρ
theorem xF{D':Ends}{J:It}{ds:List D}{g:eO}{tb:cN}{E:gu}(S:SIx Z B md ρ σ H G fp)(it:r9 Z G J ds)(hd:ko g tb E ds ρ)(M:Meets Z X B md rn E D'):
  ∃W:Nat->Nat->St->Hp->Prop,(∃m,W 0 m σ H)/\∀i m σ H,W i m σ H->
   (J.stop i H/\D'.nx σ H)\/(J.go i H/\∃N:St->Hp->Prop,(∀az H',N az H'->∃m',m'<m/\W (i+1) m' az H')/\∀x H',J.yld i H x H'->Ei Z md g x σ H' λfI H2=>pb Z X md rn tb {D' with nx:=N,ct:=N,bk:=D'.nx} fI H2):=by
 let B1:Bs:={B with Gf:=G}
 have back:∀ρ σ H,SI Z B1 md ρ σ H->SI Z B md ρ σ H:=λρ σ H ⟨G2,Az,S2⟩=>⟨G2,Az,⟨S2.ex,S.fl.trans S2.fl,S2.len,S2.at_,S2.nd,S2.ap,S2.nw⟩⟩;have S1:SIx Z B1 md ρ σ H G fp:=⟨S.ex, .refl _,S.len,S.at_,S.nd,S.ap,S.nw⟩;refine⟨λi m σ H=>m=ds.length-i/\i<=ds.length/\∃ρ,SI Z B1 md ρ σ H/\ko g tb E (ds.drop i) ρ,⟨_,rfl,cM _,ρ,⟨G,fp,S1⟩,hd⟩,?_⟩;intro i m fI H2 iB;rfl';obtain⟨rfl,hi,dQ,⟨G2,Az,S2⟩,hf⟩:=iB;obtain⟨go,stop,yld⟩:=it G2 H2 S2.fl S2.ex.sub i;ac_rfl
 by_cases cG:i<ds.length
 ·refine .inr ⟨go cG,λaz H'=>∃aA,SI Z B1 md aA az H'/\ko g tb E (ds.drop (i+1)) aA,λaz H' n=>⟨ds.length-(i+1),by omega,rfl,cG,n⟩,λx H' y=>?_⟩
  rfl';obtain⟨G3,d,x3,Pp,dv⟩:=yld x H' cG y;rw[pZ Pp] at hf;ac_rfl;refine⟨B1,dQ,d,_,G3,Az,S2.grow x3,dv,hf,λρ4 h4 fJ fp4 S4=>?_⟩;exact⟨B1,ρ4,_,⟨G3,fp4,S4⟩,h4,⟨λaA h' az H' s'=>⟨aA,s',h'⟩,M.rt,λaA h' az H' s'=>M.nx _ h' _ _ (back _ _ _ s'),λaA h' az H' s'=>⟨aA,s',h'⟩,λaA d h' az H' G' yZ a' s' jT=>M.xc aA d h' az H' G' yZ a' ⟨s'.ex,S.fl.trans s'.fl,s'.len,s'.at_,s'.nd,s'.ap,s'.nw⟩ jT⟩⟩
 ·have e:ds.drop i= []:=BJ (by omega)
  rw[e] at hf;exact .inl ⟨stop (by omega),M.nx _ hf _ _ (back _ _ _ ⟨G2,Az,S2⟩)⟩
variable {tg iter:Expr} {body:List Stmt} {wi:g5} {g:eO} {tb:cN} {pos:Pos}
theorem bR(hc:X.calm=true)(hp:PassesOwn (model X.prog X.w) X.A X.env X.xe)(hi:DI Z X tg iter wi)(hg:EM Z X md tg g)(hb:pM Z X md rn body tb)
  (hs:∀x,foldedSetIterable iter X.env x=pure x:=by intro _;rfl):DSt Z X md rn (.For tg iter body [] pos) (Nd md false wi g tb):=by
 refine(Ex hp hc hi hg hb hs).imp ?_;intro D σ H aJ;rfl';obtain⟨B,ρ,E,⟨G,fp,S⟩,h,M⟩:=aJ;ac_rfl;exact⟨G,_,_,S.ex.sub,S.qf,h,λds hd J G1 H1 x1 it=>xF (S.grow x1) it hd M⟩
def Lk(Z:DC)(wi:g5):TI:=λσ H R=>∃(G:Hp)(ρ:DN)(P:List D->Prop),aK G H/\dk Z G σ ρ/\wi ρ P/\∀ds,P ds->∀J G' H',Ext G H G' H'->(∀G2,r9 Z G2 J ds)->R J H'
def NW(Z:DC)(X:Cx)(tg e:Expr)(wi:g5):Prop:=PI X tg e (Lk Z wi)
theorem uK(hc:X.calm=true)(hp:PassesOwn (model X.prog X.w) X.A X.env X.xe)(hi:NW Z X tg iter wi)(hg:EM Z X md tg g)(hb:pM Z X md rn body tb)
  (hs:∀x,foldedSetIterable iter X.env x=pure x:=by intro _;rfl):DSt Z X md rn (.For tg iter body [] pos) (Nd md true wi g tb):=by
 refine(Ex hp hc hi hg hb hs).imp ?_;intro D σ H aJ;rfl';obtain⟨B,ρ,E,⟨G,fp,S⟩,h,M⟩:=aJ;ac_rfl;exact⟨H,ρ,_, .refl _,S.Aq,h,λds hd J G1 H1 x1 it=>xF (S.grow (Ext.all S.ex.sub x1)) (it _) hd M⟩
variable {a b e:Expr} {ta te:bg} {t:gn}
theorem uI{p:Pos}(hg:Gl X "range")(hm:X.mg "range"=none)(ha:DA Z X [a] t)(hs:starEach [a] X.env= [(false,eval a X.env)]:=by rfl):NW Z X tg (.Call (.Name "range" p) [a] [] pos) (Nl t):=by
 refine(vJ hg hm ha hs).imp ?_;intro σ H Q aJ;rfl';obtain⟨G,ρ,P,s,en,h,q⟩:=aJ;ac_rfl;refine⟨G,ρ,_,s,en,h,λds hd vs G1 H1 x1 dv=>?_⟩
 split at hd
 ·obtain⟨_,rfl,a⟩:=dv.ofOne
  exact⟨_,by rw[a.ofInt],hd.1.1,hd.1.2,q _ hd.2 _ G1 H1 x1 λ_=>rJ 0 _⟩
 ·exact hd.elim
theorem B4{p:Pos}(hg:Gl X "range")(hm:X.mg "range"=none)(ha:DA Z X [a,b] t)(hs:starEach [a,b] X.env= [(false,eval a X.env),(false,eval b X.env)]:=by rfl)(iN:starEach [b] X.env= [(false,eval b X.env)]:=by rfl):NW Z X tg (.Call (.Name "range" p) [a,b] [] pos) (Tw t):=by
 refine(C3 hg hm ha hs iN).imp ?_;rintro σ H Q ⟨G,ρ,P,s,en,h,q⟩;refine⟨G,ρ,_,s,en,h,λds hd vs G1 H1 x1 dv=>?_⟩
 split at hd
 ·obtain⟨u1,u2,rfl,da,db⟩:=dv.zu
  exact⟨_,_,by rw[da.ofInt,db.ofInt],hd.1,q _ hd.2 _ G1 H1 x1 λ_=>rJ _ _⟩
 ·exact hd.elim
def D4(c:dS)(tb:cN):cN:=λE ρ=>∃W:Nat->DN->Prop,(∃m,W m ρ)/\∀m ρ,W m ρ->c ρ λb=>if b=true then tb {nx:=λaA=>∃m',m'<m/\W m' aA,ct:=λaA=>∃m',m'<m/\W m' aA,bk:=E.nx,rt:=E.rt,xc:=E.xc} ρ else E.nx ρ
theorem nU{c:Expr}{tc:dS}(hp:PassesOwn (model X.prog X.w) X.A X.env X.xe)(hc:DT Z X c tc)(hb:pM Z X md rn body tb):DSt Z X md rn (.While c body [] pos) (D4 tc tb):=by
 refine(FR hp hc hb).imp ?_;intro D σ H aJ;rfl';obtain⟨B,ρ,E,S,⟨W,⟨m0,w0⟩,turn⟩,M⟩:=aJ;ac_rfl;refine⟨λm σ H=>∃ρ,SI Z B md ρ σ H/\W m ρ,⟨m0,ρ,S,w0⟩,?_⟩;intro m fI H2 aJ;rfl';obtain⟨dQ,⟨G2,Az,S2⟩,w2⟩:=aJ;ac_rfl;refine S2.TK (turn m dQ w2) λb hb H' S'=>?_;cases b with
 |false=>exact cv (M.nx _ (hb) _ _ ⟨G2,Az,S'⟩)
 |true=>
  refine dr ⟨λaz H'=>∃aA m',m'<m/\SI Z B md aA az H'/\W m' aA,λaz H' ⟨aA,m',h1,h2,h3⟩=>⟨m',h1,aA,h2,h3⟩,B,dQ,_,⟨G2,Az,S'⟩,(hb),?_⟩;exact⟨λaA ⟨m',h1,h2⟩ az H' s'=>⟨aA,m',h1,s',h2⟩,M.rt,M.nx,λaA ⟨m',h1,h2⟩ az H' s'=>⟨aA,m',h1,s',h2⟩,M.xc⟩
abbrev gH:=DN->(List D->Prop)->Prop
def zj(Z:DC)(n:Nat)(t:gH):TE:=λσ H Q=>∃(G:Hp)(ρ:DN)(P:List D->Prop),aK G H/\dk Z G σ ρ/\t ρ P/\∀ds,P ds->∀v f G' H',Ext G H G' H'->Own Z G' H' n v (.lst ds) f->f.Nodup->(∀b∈f,H b=none/\H' b≠none/\G' b=none)->Q v H'
def DF(Z:DC)(X:Cx)(n:Nat)(e:Expr)(t:gH):Prop:=PE X e (zj Z n t)
theorem Ext.side{p:Addr}{o:HO}{G1 H1:Hp}(x:Ext G H G1 H1)(hp:H1 p=none):Ext G H G1 (upd H1 p o):=
 ⟨x.gg,λb u e=>by rw[aw (aR e (x.sub.free hp))];exact x.sub _ _ e,x.hh.trans (aW hp _),x.off⟩
theorem A9{p:Addr}{xs:List V}{ds:List D}{G1 H1:Hp}(x:Ext G H G1 H1)(hp:H1 p=none)(dv:DvAll Z G1 xs ds):
  Own Z G1 (upd H1 p (.lst xs)) 1 (.ref p) (.lst ds) [p]/\([p]:List Addr).Nodup/\∀b∈([p]:List Addr),H b=none/\(upd H1 p (.lst xs)) b≠none/\G1 b=none:=by
 refine⟨.inl ⟨p,xs,ds,[],rfl,rfl,av,rfl,dv.own⟩,by simp,λb hb=>?_⟩
 have:b=p:=by simpa using hb
 subst this;exact⟨x.hh.free hp,(av▸λz=>nomatch z),x.sub.free hp⟩
def Nx(t:gn):gH:=λρ P=>t ρ λds=>ds.length<=sizeLine/\P ds
theorem fh{es:List Expr}(h:DA Z X es t):DF Z X 1 (.List es pos) (Nx t):=by
 refine(qy h).imp ?_;intro σ H Q aJ;rfl';obtain⟨G,ρ,P,s,e,h,q⟩:=aJ;ac_rfl;refine⟨G,ρ,_,s,e,h,?_⟩;rintro ds ⟨hl,hp⟩ vs G1 H1 x1 bw;refine⟨by rw[bw.length];exact hl,λp kv=>?_⟩
 obtain⟨o1,o2,o3⟩:=A9 x1 kv bw;exact q _ hp _ _ _ _ (x1.side kv) o1 o2 o3
def O6(wi:g5)(g:eO)(tt:dS)(te:bg)(src:List (Option Nat)):gH:=λρ P=>wi ρ λds=>lcW g tt te ds (yu src ρ) [] λ_ out=>P out
theorem AX{src:List (Option Nat)}{tt:dS}:∀σ H Q,zj Z 1 (O6 wi g tt te src) σ H Q->Mn (vi Z wi) (rO Z g) (liftT Z tt) (dY Z te) src σ H Q:=by
 intro σ H Q aJ;rfl';obtain⟨G,ρ,P,s,en,h,q⟩:=aJ;ac_rfl;refine⟨G,ρ,_,s,en,h,λds hd J G1 H1 x1 it Ad hA=>?_⟩;refine⟨λi m fI H2=>m=ds.length-i/\i<=ds.length/\∃dQ acc,CS Z G1 H1 Ad dQ acc fI H2/\lcW g tt te (ds.drop i) dQ acc λ_ out=>P out,⟨_,rfl,cM _,_,[], .begin x1.sub hA ((en.mono x1.gg).src src),hd⟩,?_⟩;rintro i m fI H2 ⟨rfl,hi,dQ,acc,c,hl⟩
 by_cases cG:i<ds.length
 ·obtain⟨go,turn⟩:=xP hA G1 it i dQ acc fI H2 c (λ_ s=>s) cG hl
  exact .inr ⟨go,_,λaz H' n=>⟨ds.length-(i+1),by omega,rfl,cG,n⟩,turn⟩
 ·have e:ds.drop i= []:=BJ (by omega)
  rfl';rw[e] at hl;obtain⟨G2,ys,s1,s2,s3,off,gA,tE,bw,en⟩:=c;ac_rfl;refine .inl ⟨(it G2 H2 s1 s2 i).2.1 (by omega),q _ hl (.ref Ad) [Ad] G2 H2 ⟨x1.gg.trans s1,s2,x1.hh.trans s3,λb hb hg=>off b (eB x1.hh hb) (x1.off b hb hg)⟩ (.inl ⟨Ad,ys,acc,[],rfl,rfl,tE,rfl,bw.own⟩) (by simp) λb hb=>?_⟩
  have:b=Ad:=by simpa using hb
  subst this;exact⟨x1.hh.free hA,(by rw[tE];exact λz=>nomatch z),gA⟩
variable {elt:Expr} {ifs:List Expr} {scope:Scope} {NC:List Str} {src:List (Option Nat)} {tt:dS}
def Nj(md:List Nat)(i:Nat)(t:gH):cN:=λE ρ=>t (cJ md ρ) λds=>E.nx (ρ.set i (some (.lst ds)))
theorem xV{n i:Nat}{t:gH}{D':Ends}{E:gu}(hm:md.getD i 0=n)(S:SIx Z B md ρ σ H G fp)(h:t (cJ md ρ) λds=>E.nx (ρ.set i (some (.lst ds))))(M:Meets Z X B md rn E D'):zj Z n t σ H λv H'=>D'.nx (σ.set i (some v)) H':=by
 refine⟨G,_,_,S.ex.sub,S.qf,h,λds hd v f G' H' x o nd nw=>?_⟩;refine M.nx _ hd _ _ ⟨G',_,(S.grow x).Jr hm o nd (λb hb=>⟨S.ex.hh.free (nw b hb).1,(nw b hb).2⟩) λb hb j _ hj=>(S.nw j b hj).2.1 (nw b hb).1⟩
theorem kX(i:Nat){n:Nat}{x:Str}{pos':Pos}{t:gH}(hN:X.N.Nodup)(he:DF Z X n e t)(hm:md.getD i 0=n:=by rfl)(hi:X.N[i]? =some x:=by rfl)(hx:Loc X.env.scope x:=by first|exact Or.inl rfl|exact Or.inr rfl)(hs:swapsWith e (some (.Name x pos')) pos.line X.env=pure false:=by rfl)
  (hf:X.fn x=true\/X.env.scope.names.lookup x=some .local:=by first|exact .inl rfl|exact .inr rfl|assumption):DSt Z X md rn (.Assign [.Name x pos'] e pos) (Nj md i t):=by
 refine(lB hN hi hx he hs hf).imp ?_;intro D σ H aJ;rfl';obtain⟨B,ρ,E,⟨G,fp,S⟩,h,M⟩:=aJ;ac_rfl;exact xV hm S h M
theorem kh(i:Nat){x:Str}{px jM:Pos}(hc:X.calm=true)(hN:X.N.Nodup)(c:cj X scope)(eJ:cQ scope X.N src NC)(hi:DI Z X tg iter wi)
  (hg:∀ex s H,DG Z (cg X scope NC ex s H) tg g) (ht:∀ex s H,wz Z (cg X scope NC ex s H) ifs tt) (he:∀ex s H,DE Z (cg X scope NC ex s H) elt te)
  (jU:swapsWith (.ListComp elt [⟨tg,iter,ifs,0⟩] scope pos) (some (.Name x px)) jM.line X.env=pure true:=by rfl) (hm:md.getD i 0=1:=by rfl) (gJ:X.N[i]? =some x:=by rfl) (hx:Loc X.env.scope x:=by first|exact Or.inl rfl|exact Or.inr rfl)
  (hf:X.fn x=true\/X.env.scope.names.lookup x=some .local:=by first|exact .inl rfl|exact .inr rfl|assumption)
  (hs:∀x,foldedSetIterable iter X.env x=pure x:=by intro _;rfl):DSt Z X md rn (.Assign [.Name x px] (.ListComp elt [⟨tg,iter,ifs,0⟩] scope pos) jM) (Nj md i (O6 wi g tt te src)):=by
 refine(ye hc hN gJ hx c eJ hi hg ht he jU hf hs).imp ?_;intro D σ H aJ;rfl';obtain⟨B,ρ,E,⟨G,fp,S⟩,h,M⟩:=aJ;ac_rfl;exact AX σ H _ (xV hm S h M)
end
section
variable {Z:DC} {X:Cx} {B:Bs} {md:List Nat} {rn:Nat} {ρ:DN} {σ:St} {H G:Hp} {fp:Nat->List Addr} {a e k o:Expr} {ta te tk tp:bg} {pos apos aU p2:Pos}
theorem SIx.mut{i:Nat}{v:V}{d':D}{b:Addr}{c:HO}(S:SIx Z B md ρ σ H G fp)(hi:σ[i]? =some (some v))(hb:b∈fp i)(o:Own Z G (upd H b c) (md.getD i 0) v d' (fp i)):SIx Z B md (ρ.set i (some d')) σ (upd H b c) G fp where
 ex:=by
  obtain⟨h1,h2,h3⟩:=S.nw i b hb;exact⟨S.ex.gg,λx u e=>by rw[aw (aR e h3)];exact S.ex.sub _ _ e,λx u e=>by rw[aw (aR e h1)];exact S.ex.hh _ _ e,S.ex.off⟩
 fl:=S.fl
 len:=by rw[dB];exact S.len
 at_:=λj w h=>by
  by_cases z:i=j
  ·subst z
   by_cases hl:i<ρ.length
   ·rw[iH hl] at h
    cases Option.some.inj h;exact⟨v,hi,o⟩
   ·rw[wd (gL hl),fi (gL hl)] at h;cases h
  ·rw[jv z] at h
   obtain⟨u,hu,ow⟩:=S.at_ j w h;exact⟨u,hu,ow.keep (.refl _) λx hx=>aw λq=>S.ap i j b z hb (q▸hx)⟩
 nd:=S.nd
 ap:=S.ap
 nw:=λj x hx=>by
  obtain⟨h1,h2,h3⟩:=S.nw j x hx;refine⟨h1,?_,h3⟩
  by_cases z:x=b
  ·rw[z,av];exact λq=>nomatch q
  ·rw[aw z];exact h2
theorem SIx.one{i:Nat}{d:D}(S:SIx Z B md ρ σ H G fp)(hm:md.getD i 0=1)(h:ρ[i]? =some (some d)):∃l xs ds,d= .lst ds/\σ[i]? =some (some (.ref l))/\H l=some (.lst xs)/\DvAll Z G xs ds/\
  ∀gW fY,DvAll Z G gW fY->SIx Z B md (ρ.set i (some (.lst fY))) σ (upd H l (.lst gW)) G fp:=by
 rfl';obtain⟨v,hv,o⟩:=S.at_ i d h;rw[hm] at o;obtain⟨l,xs,ds,dP,rfl,rfl,hl,hf,ol⟩:=o.one;obtain⟨dv,rfl⟩:=ol.flat;ac_rfl;refine⟨l,xs,ds,rfl,hv,hl,dv,λgW fY jT=>S.mut hv (by rw[hf];simp) ?_⟩
 rw[hm,hf];exact .inl ⟨l,gW,fY,[],rfl,rfl,av,rfl,jT.own⟩
theorem bT.RM:∀{ys:List V}{jy:List D}{dP:List Addr}(p:Nat){dp:D},bT (Own Z G H 1) ys jy dP->dP.Nodup->jy[p]? =some dp->∃l xs ds,dp= .lst ds/\ys[p]? =some (.ref l)/\H l=some (.lst xs)/\DvAll Z G xs ds/\l∈dP/\
  ∀gW fY,DvAll Z G gW fY->bT (Own Z G (upd H l (.lst gW)) 1) ys (jy.set p (.lst fY)) dP
 |_,_,_,_,_, .nil,_,h=>by simp at h
 |_,_,_,0,dp, .cons (f:=f) (fs:=fs) a as,nd,h=>by
  simp at h;subst h;rfl';obtain⟨l,xs,ds,dP,rfl,rfl,hl,hf,ol⟩:=a.one;obtain⟨dv,rfl⟩:=ol.flat;subst hf;ac_rfl;refine⟨l,xs,ds,rfl,rfl,hl,dv,by simp,λgW fY jT=> .cons (.inl ⟨l,gW,fY,[],rfl,rfl,av,rfl,jT.own⟩) (as.imp λv d f hf r=>r.keep (.refl _) λb hb=>aw λz=>?_)⟩
  have:=(eE.mp nd).1
  exact this (z▸hf _ hb)
 |_,_,_,p+1,dp, .cons (f:=f) (fs:=fs) a as,nd,h=>by
  rfl';obtain⟨CM,mN,Lp⟩:=gF.mp nd;obtain⟨l,xs,ds,e1,e2,e3,e4,e5,e6⟩:=bT.RM p (dp:=dp) as mN (by simpa using h)
  ac_rfl;refine⟨l,xs,ds,e1,by simpa using e2,e3,e4,fN _ e5,λgW fY jT=>?_⟩
  refine .cons (a.keep (.refl _) λb hb=>aw λz=>?_) (e6 gW fY jT);exact Lp b hb l e5 z
theorem SIx.two{i p:Nat}{jy:List D}{dp:D}(S:SIx Z B md ρ σ H G fp)(hm:md.getD i 0=2)(h:ρ[i]? =some (some (.lst jy)))(hp:jy[p]? =some dp):∃T ys l xs ds,dp= .lst ds/\σ[i]? =some (some (.ref T))/\H T=some (.lst ys)/\ys.length=jy.length/\ys[p]? =some (.ref l)/\H l=some (.lst xs)/\DvAll Z G xs ds/\
  ∀gW fY,DvAll Z G gW fY->SIx Z B md (ρ.set i (some (.lst (jy.set p (.lst fY))))) σ (upd H l (.lst gW)) G fp:=by
 rfl';obtain⟨v,hv,o⟩:=S.at_ i _ h;rw[hm] at o;obtain⟨T,ys,Tx,dP,rfl,e0,hT,hf,ol⟩:=o.lst;cases e0;have nd:=S.nd i;rw[hf] at nd;obtain⟨nT,mN⟩:=eE.mp nd;obtain⟨l,xs,ds,e1,e2,e3,e4,e5,e6⟩:=bT.RM p ol mN hp;ac_rfl;refine⟨T,ys,l,xs,ds,e1,hv,hT,ol.length,e2,e3,e4,λgW fY jT=>S.mut hv (by rw[hf];exact bP _ e5) ?_⟩
 rw[hm,hf];exact .inl ⟨T,ys,_,dP,rfl,rfl,by rw[aw (λz=>nT (by rw[z];exact e5))];exact hT,rfl,e6 gW fY jT⟩
theorem ty_list{K:PySem.W.Frag}{l:Addr}{xs:List V}(h:H l=some (.lst xs)):Mu K "list" (.ref l) H:= .inl ⟨rfl,_,bU.of h⟩
def Sz(md:List Nat)(m:Bool)(i:Nat)(te:bg):cN:=λE ρ=>∃ds,ρ[i]? =some (some (.lst ds))/\te (BD md m ρ) λd=>nW m d/\ds.length<sizeLine/\E.nx (ρ.set i (some (.lst (ds++ [d]))))
theorem t4(m:Bool)(i:Nat){x:Str}{px:Pos}(he:DE Z X e te)(hm:md.getD i 0=1:=by rfl)(hi:X.N[i]? =some x:=by rfl)(hv:kT X.env.scope x:=by first|exact Or.inl rfl|exact Or.inr (Or.inl rfl) |exact Or.inr (Or.inr rfl))(hd:(x==("__debug__":Str))=false:=by decide)(dG:(x==("__classdict__":Str))=false:=by decide)
  (fq:attributeBase (.Name x px) "append" X.env (eval (.Name x px) X.env)=eval (.Name x px) X.env:=by rfl)
  (ku:((backTo aU (starEach [e] X.env)).all (λx=>!x.1)&&(backToKw aU (keywordEach [] X.env)).all (λx=>x.1.isSome)&&decide (([e]:List Expr).length+([]:List Keyword).length+(if ([]:List Keyword).isEmpty then 0 else 1)<30))=true:=by rfl)
  (eU:(apos.endLine==aU.line)=true:=by rfl) (hs:starEach [e] X.env=(false,eval e X.env)::starEach [] X.env:=by rfl) (fF:(backTo aU (starEach [] X.env)).any (·.1)=false:=by rfl)
  (jU:swapsWith (.Call (.Attribute (.Name x px) "append" apos) [e] [] aU) none pos.line X.env=pure false:=by rfl):
  DSt Z X md rn (.Expr (.Call (.Attribute (.Name x px) "append" apos) [e] [] aU) pos) (Sz md m i te):=by
 refine(kG (zB PySem.F.plainAttrs_list PySem.F.slot_list_append PySem.F.type_list_append lg (pv i hi hv hd dG) (cS he fU hs) fq ku eU hs fF) jU).imp ?_;intro D σ H aJ;rfl';obtain⟨B,ρ,E,⟨G,fp,S⟩,⟨ds,h1,h⟩,M⟩:=aJ;ac_rfl;rfl';obtain⟨l,xs,_,_,e2,e3,_⟩:=S.one hm h1;ac_rfl;refine⟨_,e2,ty_list e3,S.ev m h λd hd=>⟨hd.1,λv G' H' S' x dv=>?_⟩⟩;rfl';obtain⟨_,h2,h3⟩:=hd;obtain⟨l',gW,fY,e1,gI,uP,bw,put⟩:=S'.one hm h1;cases e1;ac_rfl;rw[e2] at gI;cases gI;exact⟨l,gW,v,rfl,rfl,uP,by rw[bw.length];exact h2,M.nx _ h3 _ _ ⟨G',fp,put _ _ (bw.snoc dv)⟩⟩
theorem DvAll.ins{vs:List V}{ds:List D}{v:V}{d:D}(n:Nat)(h:DvAll Z G vs ds)(dv:Dv Z G v d):DvAll Z G (Wb.ins vs n v) (Wb.ins ds n d):=(h.take n).append (.cons dv (h.drop n))
def SG(md:List Nat)(m:Bool)(i:Nat)(tk te:bg):cN:=λE ρ=>∃ds,ρ[i]? =some (some (.lst ds))/\tk ρ λkk=>∃k,kk= .int k/\te (BD md m ρ) λd=>nW m d/\(0<=k/\k<=ds.length/\ds.length<sizeLine)/\E.nx (ρ.set i (some (.lst (Wb.ins ds k.toNat d))))
theorem KA(m:Bool)(i:Nat){x:Str}{px:Pos}(hk:DE Z X k tk)(he:DE Z X e te)(hm:md.getD i 0=1:=by rfl)(hi:X.N[i]? =some x:=by rfl)(hv:kT X.env.scope x:=by first|exact Or.inl rfl|exact Or.inr (Or.inl rfl) |exact Or.inr (Or.inr rfl))(hd:(x==("__debug__":Str))=false:=by decide)(dG:(x==("__classdict__":Str))=false:=by decide)
  (fq:attributeBase (.Name x px) "insert" X.env (eval (.Name x px) X.env)=eval (.Name x px) X.env:=by rfl)
  (ku:((backTo aU (starEach [k,e] X.env)).all (λx=>!x.1)&&(backToKw aU (keywordEach [] X.env)).all (λx=>x.1.isSome)&&decide (([k,e]:List Expr).length+([]:List Keyword).length+(if ([]:List Keyword).isEmpty then 0 else 1)<30))=true:=by rfl)
  (eU:(apos.endLine==aU.line)=true:=by rfl) (hs:starEach [k,e] X.env=(false,eval k X.env)::starEach [e] X.env:=by rfl) (iN:starEach [e] X.env=(false,eval e X.env)::starEach [] X.env:=by rfl) (fF:(backTo aU (starEach [e] X.env)).any (·.1)=false:=by rfl)
  (jU:swapsWith (.Call (.Attribute (.Name x px) "insert" apos) [k,e] [] aU) none pos.line X.env=pure false:=by rfl):
  DSt Z X md rn (.Expr (.Call (.Attribute (.Name x px) "insert" apos) [k,e] [] aU) pos) (SG md m i tk te):=by
 refine(kG (zB PySem.F.plainAttrs_list PySem.F.slot_list_insert PySem.F.type_list_insert CL (pv i hi hv hd dG) (cS hk (cS he fU iN) hs) fq ku eU hs fF) jU).imp ?_;intro D σ H aJ;rfl';obtain⟨B,ρ,E,⟨G,fp,S⟩,⟨ds,h1,h⟩,M⟩:=aJ;ac_rfl;rfl';obtain⟨l,xs,_,_,e2,e3,_⟩:=S.one hm h1;ac_rfl;refine⟨_,e2,ty_list e3,S.ev true h ?_⟩;rintro _ ⟨k,rfl,h⟩;refine⟨rfl,λv1 G1 H1 S1 x1 rD=>S1.ev m h λd hd=>⟨hd.1,λv G' H' S' x dv=>?_⟩⟩;rfl';cases rD.ofInt;obtain⟨_,⟨h2,Pe,TZ⟩,h3⟩:=hd;obtain⟨l',gW,fY,e1,gI,uP,bw,put⟩:=S'.one hm h1;cases e1;ac_rfl;rw[e2] at gI;cases gI;exact⟨l,gW,k,v,rfl,rfl,uP,h2,by rw[bw.length];exact Pe,by rw[bw.length];exact TZ,M.nx _ h3 _ _ ⟨G',fp,put _ _ (bw.ins _ dv)⟩⟩
theorem DV{α:Type}{xs:List α}{i:Int}{j n:Nat}{v:α}(hn:xs.length=n)(h:jj n i=some j)(e:xs[j]? =some v):fO xs i=some v:=by unfold fO;rw[hn,h];exact e
def Kr(md:List Nat)(m:Bool)(i:Nat)(tk te:bg):cN:=λE ρ=>te (BD md m ρ) λd=>nW m d/\∃ds,ρ[i]? =some (some (.lst ds))/\tk ρ λkk=>∃k j,kk= .int k/\jj ds.length k=some j/\E.nx (ρ.set i (some (.lst (ds.set j d))))
theorem rB(m:Bool)(i:Nat){x:Str}{px ps:Pos}(hk:DE Z X k tk)(he:DE Z X e te)(hm:md.getD i 0=1:=by rfl)(hi:X.N[i]? =some x:=by rfl)(hv:kT X.env.scope x:=by first|exact Or.inl rfl|exact Or.inr (Or.inl rfl) |exact Or.inr (Or.inr rfl))(hd:(x==("__debug__":Str))=false:=by decide)(dG:(x==("__classdict__":Str))=false:=by decide)
  (ha:∀v,assign (.Subscript (.Name x px) k ps) X.env v=(do
   let ov <-holding [v] (eval (.Name x px) X.env)
   let iv <-holding [v,ov] (eval k X.env)
   standAt ps
   holding [v,ov,iv] (setItem ov iv v)
   release [v,ov,iv] []):=by intro _;rfl)
  (hs:swapsWithSole [.Subscript (.Name x px) k ps] e pos.line X.env=pure false:=by rfl) (hw:swappedStores [.Subscript (.Name x px) k ps] e X.env=pure none:=by rfl)
  (h1:(assignEach [.Subscript (.Name x px) k ps] X.env).map (·.2)= [assign (.Subscript (.Name x px) k ps) X.env]:=by rfl):DSt Z X md rn (.Assign [.Subscript (.Name x px) k ps] e pos) (Kr md m i tk te):=by
 refine(nY he (qA (pv i hi hv hd dG) hk set_list ha) hs hw h1).imp ?_;intro D σ H aJ;rfl';obtain⟨B,ρ,E,⟨G,fp,S⟩,h,M⟩:=aJ;ac_rfl;refine S.ev m h λd hd=>⟨hd.1,λv G' H' S' x dv=>?_⟩;rfl';obtain⟨_,ds,h1,h⟩:=hd;obtain⟨l,xs,_,_,e2,e3,_⟩:=S'.one hm h1;ac_rfl;refine⟨_,e2,S'.ev true h ?_⟩;rintro _ ⟨k,j,rfl,hj,h3⟩;refine⟨rfl,λv1 G1 H1 S1 x1 rD=>?_⟩;rfl';cases rD.ofInt;obtain⟨l',gW,fY,e1,gI,uP,bw,put⟩:=S1.one hm h1;cases e1;ac_rfl;rw[e2] at gI;cases gI;exact⟨l,gW,k,j,rfl,rfl,uP,by rw[bw.length];exact hj,M.nx _ h3 _ _ ⟨G1,fp,put _ _ (bw.set (dv.mono x1.gg) j)⟩⟩
def SM(md:List Nat)(i j:Nat):cN:=λE ρ=>∃ds d,ρ[j]? =some (some (.lst (ds++ [d])))/\E.nx ((ρ.set j (some (.lst ds))).set i (some d))
theorem KC(i j:Nat){x y:Str}{px py:Pos}(hN:X.N.Nodup)(hm:md.getD i 0=0:=by rfl)(PH:md.getD j 0=1:=by rfl)(hi:X.N[i]? =some x:=by rfl)(hx:Loc X.env.scope x:=by first|exact Or.inl rfl|exact Or.inr rfl)
  (hj:X.N[j]? =some y:=by rfl) (hv:kT X.env.scope y:=by first|exact Or.inl rfl|exact Or.inr (Or.inl rfl) |exact Or.inr (Or.inr rfl)) (hd:(y==("__debug__":Str))=false:=by decide) (dG:(y==("__classdict__":Str))=false:=by decide)
  (fq:attributeBase (.Name y py) "pop" X.env (eval (.Name y py) X.env)=eval (.Name y py) X.env:=by rfl) (eU:(apos.endLine==aU.line)=true:=by rfl)
  (hs:swapsWith (.Call (.Attribute (.Name y py) "pop" apos) [] [] aU) (some (.Name x px)) pos.line X.env=pure false:=by rfl)
  (hf:X.fn x=true\/X.env.scope.names.lookup x=some .local:=by first|exact .inl rfl|exact .inr rfl|assumption):DSt Z X md rn (.Assign [.Name x px] (.Call (.Attribute (.Name y py) "pop" apos) [] [] aU) pos) (SM md i j):=by
 refine(lB hN hi hx (LH PySem.F.plainAttrs_list PySem.F.slot_list_pop PySem.F.type_list_pop Lo (pv j hj hv hd dG) fq eU) hs hf).imp ?_;intro D σ H aJ;rfl';obtain⟨B,ρ,E,⟨G,fp,S⟩,⟨ds,d,h1,h⟩,M⟩:=aJ;ac_rfl;rfl';obtain⟨l,xs,fY,e1,e2,e3,bw,put⟩:=S.one PH h1;cases e1;have hl:xs.length=ds.length+1:=by rw[bw.length];simp
 obtain⟨v,zd,dv⟩:=bw.get (i:=xs.length-1) (d:=d) (by rw[hl];simp)
 ac_rfl;refine⟨_,e2,ty_list e3,l,xs,v,rfl,rfl,e3,zd,M.nx _ h _ _ ⟨G,_,(put xs.dropLast ds ?_).nA hm dv⟩⟩
 have:=bw.take ds.length
 rw[List.take_left'] at this
 ·rw[List.dropLast_eq_take,hl];exact this
 ·rfl
theorem SIx.L3{j:Nat}{d:D}(S:SIx Z B md ρ σ H G fp)(h:ρ[j]? =some (some d)):∃v,σ[j]? =some (some v)/\Dv Z (plus G H λb=>b∈fp j) v d/\SIx Z B md (ρ.set j none) σ H (plus G H λb=>b∈fp j) (λk=>if k=j then[] else fp k):=by
 have s:=S.ex.sub;obtain⟨v,hv,o⟩:=S.at_ j d h;refine⟨v,hv,o.dv (fb s) λb hb u e=>by rw[kF hb];exact e,?_⟩
 refine⟨⟨S.ex.gg.trans (fb s),i6 s,S.ex.hh,λb hb hg=>?_⟩,S.fl.trans (fb s),by rw[dB];exact S.len,λk c hk=>?_,λk=>by split;exact ic;exact S.nd k,λk k' b ne hk gQ=>?_,λk b hb=>?_⟩
 ·rw[gT (λz=>hb (S.nw j b z).1)];exact S.ex.off b hb hg
 ·by_cases z:j=k
  ·subst z
   by_cases hl:j<ρ.length
   ·rw[iH hl] at hk;cases hk
   ·rw[wd (gL hl),fi (gL hl)] at hk;cases hk
  ·rw[jv z] at hk
   obtain⟨u,hu,ow⟩:=S.at_ k c hk;exact⟨u,hu,by rw[if_neg (Ne.symm z)];exact ow.keep (fb s) λ_ _=>rfl⟩
 ·split at hk
  ·cases hk
  ·split at gQ
   ·cases gQ
   ·exact S.ap k k' b ne hk gQ
 ·split at hb
  ·cases hb
  ·next z=>
   obtain⟨h1,h2,h3⟩:=S.nw k b hb;exact⟨h1,h2,by rw[gT (λw=>S.ap k j b z hb w)];exact h3⟩
end
structure QY (mg:Str->Option Value):Prop where
 len:mg "len"=none
 range:mg "range"=none
 max:mg "max"=none
 min:mg "min"=none
 enumerate:mg "enumerate"=none
 zip:mg "zip"=none
 sorted:mg "sorted"=none
 all:mg "all"=none
 isinstance:mg "isinstance"=none
 int:mg "int"=none
 bool:mg "bool"=none
 list:mg "list"=none
 tuple:mg "tuple"=none
 sum:mg "sum"=none
 reversed:mg "reversed"=none
theorem DY:bootBuiltins "max"=some (.builtin "max"):=by decide+kernel
theorem z3:bootBuiltins "bool"=some (.type "bool"):=by decide+kernel
theorem DX:bootBuiltins "int"=some (.type "int"):=by decide+kernel
theorem mB:bootBuiltins "list"=some (.type "list"):=by decide+kernel
theorem oP:bootBuiltins "sorted"=some (.builtin "sorted"):=by decide+kernel
theorem aY:bootBuiltins "len"=some (.builtin "len"):=by decide+kernel
section
variable {P:Program} {w:World} {K:PySem.W.Frag} {mg:Str->Option Value} {base:Heap} {Z:DC}
def lH(N:List Str)(ds:List D):DN:=ds.map some++List.replicate (N.length-ds.length) none
def gB(Z:DC)(n:Nat)(sd:b9):Sp:=λvs H Q _=>∃(G:Hp)(ds:List D)(P:D->Prop),aK G H/\DvAll Z G vs ds/\sd ds P/\∀d,P d->∀v f G' H',Ext G H G' H'->Own Z G' H' n v d f->f.Nodup->(∀b∈f,H b=none/\H' b≠none/\G' b=none)->Q v H'
theorem Own.pure{n:Nat}{v:V}{d:D}{f:List Addr}{G H G' H':Hp}(x:Ext G H G' H')(o:Own Z G' H' n v d f)(nw:∀b∈f,H b=none/\H' b≠none/\G' b=none):∃G2,Ext G H G2 H'/\Dv Z G2 v d:=by
 refine⟨plus G' H' λb=>b∈f,⟨x.gg.trans (fb x.sub),i6 x.sub,x.hh,λb hb hg=>?_⟩,o.dv (fb x.sub) λb hb u e=>by rw[kF hb];exact e⟩
 rw[gT (λz=>hb (nw b z).1)];exact x.off b hb hg
theorem F7{n:Nat}{sd:b9}:∀vs H Q E,aM Z sd vs H Q E->gB Z n sd vs H Q E:=by
 intro vs H Q E iB;rfl';obtain⟨G,ds,P,s,dv,h,q⟩:=iB;ac_rfl;exact⟨G,ds,P,s,dv,h,λd hd v f G' H' x o nd nw=>let ⟨G2,x2,p9⟩:=o.pure x nw;q d hd v G2 H' x2 p9⟩
theorem kn(rn:Nat){x qual:Str}{st:Stmt}{f:Addr}{fd:FuncData}{N ps:List Str}{k:Nat}{sd:b9}(F:ue K x qual st f fd)(S:aC N ps (aq st))(md:List Nat)(HI:∀i,i<ps.length->md.getD i 0=0)(len:∀ds P,sd ds P->ds.length=ps.length)
  (kY:∀(bh:Value)(A:Around)(outer:List Env)(s:Shared)(H:Hp)(E:XK)(ds:List D)(R:D->Prop),cn k (A.deeper (envOfC qual (aq st) s.heap.objs.size f bh))->sd ds R->
   ∃t,pM Z (pS bQ P w K mg base N qual (aq st) f bh A outer s H E).jz md rn (fm st) t/\t {nx:=λ_=>rn=0/\R .bb,rt:=R} (lH N ds)):FnOk P w K mg base bQ (k+1) f fd ps (gB Z rn sd):=by
 refine F.ok S (λvs H Q E h=>?_) (λbh A outer s H vs Q E hr h=>?_)
 ·obtain⟨G,ds,R,s,dv,h,q⟩:=h
  rw[dv.length];exact len _ _ h
 rfl';obtain⟨G,ds,R,s0,dv,h,q⟩:=h;have UL:=q;obtain⟨t,ht,hq⟩:=kY bh A outer s H E ds R hr h;have hl:=len _ _ h;ac_rfl;refine⟨_,ht,⟨G,H,G⟩,_,_,⟨G,λ_=> [],?_⟩,hq,⟨λρ UW az H' ⟨G',fp,S'⟩=>q _ UW.2 _ [] G' H' S'.ex (by rw[UW.1];exact⟨.bb,rfl⟩) ic (λb hb=>by cases hb),UL,λ_ z=>z.elim,λ_ z=>z.elim,λ_ _ z=>z.elim⟩⟩
 refine⟨.refl s0, .refl _,by unfold lH start;simp[dv.length],λi d hi=>?_,λ_=>ic,(λ_ _ _ _ z=>by cases z),(λ_ _ z=>by cases z)⟩
 unfold lH at hi
 have tF:i<ds.length:=by
  apply Classical.byContradiction;intro z;rw[hU (by simpa using gL z),nK] at hi
  split at hi<;>cases hi
 rw[gk (by simpa using tF),cA] at hi
 have gP:ds[i]? =some d:=by
  cases z:ds[i]? with
  |none=>rw[z] at hi;cases hi
  |some d'=>rw[z] at hi;cases hi;rfl
 obtain⟨v,hv,jT⟩:=dv.get gP;refine⟨v,?_,by rw[HI i (by omega)];exact⟨jT,rfl⟩⟩
 unfold start;rw[gk (by simpa [dv.length] using tF),cA,hv];rfl
theorem aP{x qual:Str}{st:Stmt}{f:Addr}{fd:FuncData}{N ps:List Str}{k:Nat}{sd:b9}(F:ue K x qual st f fd)(S:aC N ps (aq st))(md:List Nat)(HI:∀i,i<ps.length->md.getD i 0=0)(len:∀ds P,sd ds P->ds.length=ps.length)
  (kY:∀(bh:Value)(A:Around)(outer:List Env)(s:Shared)(H:Hp)(E:XK)(ds:List D)(R:D->Prop),cn k (A.deeper (envOfC qual (aq st) s.heap.objs.size f bh))->sd ds R->
   ∃t,pM Z (pS bQ P w K mg base N qual (aq st) f bh A outer s H E).jz md 0 (fm st) t/\t {nx:=λ_=>0=0/\R .bb,rt:=R} (lH N ds)):FnOk P w K mg base bQ (k+1) f fd ps (aM Z sd):=
 (kn 0 F S md HI len λbh A outer s H E ds R hr h=>let ⟨t,a,b⟩:=kY bh A outer s H E ds R hr h;⟨t,a,b⟩).imp F7
end
section
variable {Z:DC} {X:Cx} {a b c e o:Expr} {ta tb te:bg} {t:gn} {es:List Expr} {pos apos:Pos}
def N7:b9:=λds P=>∃i j,ds= [.int i, .int j]/\P (.int (if j>i then j else i))
theorem JV{G:Hp}{vs:List V}{i j:Int}(h:DvAll Z G vs [.int i, .int j]):vs= [.int i, .int j]:=by
 cases h with
 |cons a as=>
  cases as with
  |cons b bs=>cases bs;cases a;cases b;rfl
theorem z7(hc:X.calm=true):eM X (.builtin "max") (lb Z N7):=by
 refine(BV hc).imp ?_;intro xs H Q aJ;rfl';obtain⟨G,ds,P,s,dv,⟨i,j,rfl,h⟩,q⟩:=aJ;ac_rfl;exact⟨i,j,JV dv,q _ h _ G H (.refl s) (.int _)⟩
theorem uL{G:Hp}:∀{vs:List V}{ns:List Int},DvAll Z G vs (ns.map D.int)->vs=ns.map V.int
 |vs,[],h=>by cases h;rfl
 |vs,b::bs,h=>by
  cases h with
  |cons a as=>cases a;rw[uL as];rfl
def pairD(k:Nat×Nat):D:= .tup [.int (k.1:Nat), .int (k.2:Nat)]
theorem xp{G:Hp}:∀{vs:List V}{ns:List (Nat×Nat)},DvAll Z G vs (ns.map pairD)->∃L:List (Addr×(Nat×Nat)),vs=L.map (λe=>V.ref e.1)/\L.map (·.2)=ns/\EN G L
 |vs,[],h=>by cases h;exact⟨[],rfl,rfl,λp hp=>by cases hp⟩
 |vs,n::ns,h=>by
  cases h with
  |cons a as=>
   obtain⟨L,h1,h2,h3⟩:=xp as;unfold pairD at a;cases a with
   | @tup p xs ds hp e=>
    refine⟨(p,n)::L,by rw[h1];rfl,by rw[<-h2];rfl,λq hq=>?_⟩
    rcases cm.mp hq with rfl|hq
    ·have:xs=CW n:=by
      cases e with
      |cons a1 a2=>
       cases a2 with
       |cons b1 b2=>cases a1;cases b1;cases b2;rfl
     rw[<-this];exact hp
    ·exact h3 q hq
theorem EN.dv{G:Hp}:∀{L:List (Addr×(Nat×Nat))},EN G L->DvAll Z G (L.map λe=>V.ref e.1) ((L.map (·.2)).map pairD)
 | [],_=> .nil
 |x::L,h=> .cons (.tup (h x (b6 ..)) (.cons (.int _) (.cons (.int _) .nil))) (EN.dv λp hp=>h p (bP _ hp))
def Kp(ta tb:bg):bg:=λρ P=>ta ρ λd=>∃l,d= .lst l/\tb ρ λy=>eS y=true/\l.all eS=true/\∃(j:Nat)(z:D),l[j]? =some z/\iE z y=true/\(∀(m:Nat) z,m<j->l[m]? =some z->iE z y=false)/\P (.int (j:Nat))
theorem ke{aU:Pos}(ho:DE Z X o ta)(he:DE Z X e tb)
  (fq:attributeBase o "index" X.env (eval o X.env)=eval o X.env:=by rfl)
  (ku:((backTo aU (starEach [e] X.env)).all (λx=>!x.1)&&(backToKw aU (keywordEach [] X.env)).all (λx=>x.1.isSome)&&decide (([e]:List Expr).length+([]:List Keyword).length+(if ([]:List Keyword).isEmpty then 0 else 1)<30))=true:=by rfl)
  (eU:(apos.endLine==aU.line)=true:=by rfl) (hs:starEach [e] X.env=(false,eval e X.env)::starEach [] X.env:=by rfl) (fF:(backTo aU (starEach [] X.env)).any (·.1)=false:=by rfl):
  DE Z X (.Call (.Attribute o "index" apos) [e] [] aU) (Kp ta tb):=by
 refine(zB PySem.F.plainAttrs_list PySem.F.slot_list_index PySem.F.type_list_index FA ho (cS he fU hs) fq ku eU hs fF).imp ?_;intro σ H Q aJ;rfl';obtain⟨G,ρ,P,s,en,h,q⟩:=aJ;ac_rfl;refine⟨G,ρ,_,s,en,h,?_⟩;rintro _ ⟨l,rfl,hd⟩ v G1 H1 x1 dv;cases dv with
 | @lst p xs ds hp e=>
  refine⟨ty_list (x1.sub _ _ hp),G1,ρ,_,x1.sub,en.mono x1.gg,hd,λy hy u G2 H2 x2 du=>?_⟩;rfl';obtain⟨h1,h2,j,z,h3,h4,h5,h6⟩:=hy;have e2:=e.mono x2.gg;obtain⟨w,hw,dw⟩:=e2.get h3;ac_rfl;refine⟨p,xs,u,j,w,rfl,rfl,x2.hh _ _ (x1.sub _ _ hp),by rw[qh du];exact h1,by rw[mK e2];exact h2,hw,by rw[yY dw du];exact h4,λm z' hm hz=>?_,q _ h6 _ G2 H2 (x1.trans x2) (.int _)⟩
  obtain⟨d',gP,jT⟩:=e2.xH hz;rw[yY jT du];exact h5 m d' hm gP
end
structure DS (Z:DC):Prop where
 cl:ub Z.K Z.C
 nR:kR Z.K Z.C "rows"
section
variable {Z:DC} {X:Cx} {a b c e o:Expr} {ta tb te:bg} {t:gn} {es:List Expr} {pos apos:Pos}
def OT(ta:bg):bg:=λρ P=>ta ρ λd=>∃w,d= .dA w/\P (ay w)
theorem pV(T:DS Z)(ha:DE Z X o ta)(eK:X.K=Z.K:=by rfl)(hb:attributeBase o "rows" X.env (eval o X.env)=eval o X.env:=by rfl):DE Z X (.Attribute o "rows" apos) (OT ta):=by
 refine(LJ ha hb).imp ?_;intro σ H Q aJ;rfl';obtain⟨G,ρ,P,s,en,h,q⟩:=aJ;ac_rfl;refine⟨G,ρ,_,s,en,h,?_⟩;rintro _ ⟨w,rfl,hd⟩ v G1 H1 x1 dv;cases dv with
 | @dA p dx R w hp hr g h1 h2=>exact⟨p,Z.C,dx,_, .ref R,rfl,x1.sub _ _ hp,by rw[eK];exact T.cl,by rw[eK];exact T.nR,rfl,q _ hd _ G1 H1 x1 hr⟩
def B0(sd:b9)(ta:bg)(t:gn):bg:=λρ P=>ta ρ λd=>∃w,d= .dA w/\t ρ λds=>sd (.dA w::ds) P
theorem xT{m:Str}{sd:b9}(hm:([("rows",V.ref 0)]:List (Str×V)).lookup m=none):∀σ H Q,dY Z (B0 sd ta t) σ H Q->Dm Z.C m (aM Z sd) [] E0 (dY Z ta) (CD Z t) σ H Q:=by
 intro σ H Q aJ;rfl';obtain⟨G,ρ,P,s,en,h,q⟩:=aJ;ac_rfl;refine⟨G,ρ,_,s,en,h,?_⟩;rintro _ ⟨w,rfl,hd⟩ v G1 H1 x1 dv;have dv0:=dv;cases dv with
 | @dA p dx R w hp hr g h1 h2=>
  refine⟨p,dx,_,rfl,x1.sub _ _ hp,?_,G1,ρ,_,x1.sub,en.mono x1.gg,hd,λds Fh vs G2 H2 x2 bw=>?_⟩
  ·have hz:(m==("rows":Str))=false:=by
    cases z:(m==("rows":Str)) with
    |false=>rfl
    |true=>simp[List.lookup,z] at hm
   simp[List.lookup,hz]
  ·show aM Z sd (V.ref p::(vs++ [])) H2 Q E0
   rw[kP];exact⟨G2,_,P,x2.sub, .cons (dv0.mono x2.gg) bw,Fh,λd hd v G3 H3 x3 OZ=>q d hd v G3 H3 ((x1.trans x2).trans x3) OZ⟩
variable {sd:b9} {k:Nat} {f:Addr} {fd:FuncData} {ps:List Str} {m:Str}
theorem Ak{pl:Sem Bool}(T:DS Z)(ho:DE Z X o ta)(hm:Meth Z.K Z.C m f)(F:FnOk X.prog X.w X.K X.mg X.base bQ k f fd ps (aM Z sd))(hr:cn k X.A)(hb:Binds X.K fd ps [])(ha:DA Z X (e::es) t)(eK:X.K=Z.K:=by rfl)
  (Cn:([("rows",V.ref 0)]:List (Str×V)).lookup m=none:=by decide) (kz:starEach (e::es) X.env=(false,eval e X.env)::starEach es X.env:=by rfl) (eG:(backTo pos (starEach es X.env)).any (·.1)=false:=by rfl)
  (ht:eval (.Call (.Attribute o m apos) (e::es) [] pos) X.env=(do
   let ov <-eval o X.env
   standAt apos.atName
   let (f,first) <-holding [ov] (getMethod ov m pl)
   callWith pos f first (backTo pos (starEach (e::es) X.env)) (backToKw pos (keywordEach [] X.env))):=by rfl):DE Z X (.Call (.Attribute o m apos) (e::es) [] pos) (B0 sd ta t):=
 (IT (pl:=pl) ho (by rw[eK];exact T.cl) (by rw[eK];exact hm) F hr hb .nil pC ha kz eG ht).imp (xT Cn)
theorem di{pl:Sem Bool}(T:DS Z)(ho:DE Z X o ta)(hm:Meth Z.K Z.C m f)(F:FnOk X.prog X.w X.K X.mg X.base bQ k f fd ps (aM Z sd))(hr:cn k X.A)(hb:Binds X.K fd ps [])(eK:X.K=Z.K:=by rfl)
  (Cn:([("rows",V.ref 0)]:List (Str×V)).lookup m=none:=by decide)
  (ht:eval (.Call (.Attribute o m apos) [] [] pos) X.env=(do
   let ov <-eval o X.env
   standAt apos.atName
   let (f,first) <-holding [ov] (getMethod ov m pl)
   callWith pos f first (backTo pos (starEach [] X.env)) (backToKw pos (keywordEach [] X.env))):=by rfl):DE Z X (.Call (.Attribute o m apos) [] [] pos) (B0 sd ta cZ):=
 (FJ (pl:=pl) ho (by rw[eK];exact T.cl) (by rw[eK];exact hm) F hr hb .nil pC ht).imp λσ H Q h=>by
  rfl';obtain⟨G,ρ,P,s,en,h,q⟩:=xT Cn σ H Q h;ac_rfl;refine⟨G,ρ,P,s,en,h,λd hd v G1 H1 x1 dv=>?_⟩;rfl';obtain⟨p,dx,fs,h1,h2,h3,G',aA,P',s',en',h',q'⟩:=q d hd v G1 H1 x1 dv;ac_rfl;exact⟨p,dx,fs,h1,h2,h3,q' _ h' _ G' _ (.refl s') .nil⟩
def Bt(Z:DC):Sp:=λvs H Q _=>∃(p dx:Addr)(v:V)(G:Hp)(w:List (List Nat)),vs= [.ref p,v]/\H p=some (.ins Z.C dx [])/\aK G H/\G p=none/\Dv Z G v (ay w)/\Wb.Good w/\1<=w.length/\w.length<=14/\
 ∀(R:Addr)(G' H':Hp),aK G G'->aK G' H'->(∀b o,H b=some o->b≠p->H' b=some o)->(∀b,H b≠none->G b=none->G' b=none)->H' p=some (.ins Z.C dx [("rows", .ref R)])->Dv Z G' (.ref R) (ay w)->Q .bb H'
def ON(t:gn):bg:=λρ P=>t ρ λds=>∃w,ds= [ay w]/\Wb.Good w/\1<=w.length/\w.length<=14/\P (.dA w)
theorem GZ{x:Str}{p:Pos}(M:Mk Z.K Z.C f)(F:FnOk X.prog X.w X.K X.mg X.base bQ k f fd ps (Bt Z))(hr:cn (k+1) X.A)(hg:Gl X x)(hm:X.mg x=some (.ref Z.C))(hb:Binds X.K fd ps [])
  (ha:DA Z X (e::es) t) (eK:X.K=Z.K:=by rfl) (ij:(x==("__debug__":Str))=false:=by decide) (he:starEach (e::es) X.env=(false,eval e X.env)::starEach es X.env:=by rfl) (eG:(backTo pos (starEach es X.env)).any (·.1)=false:=by rfl):
  DE Z X (.Call (.Name x p) (e::es) [] pos) (ON t):=by
 refine(IS (by rw[eK];exact M) F hr hg hm hb .nil pC ha ij he eG).imp ?_
 intro σ H Q aJ;rfl';obtain⟨G,ρ,P,s,en,h,q⟩:=aJ;ac_rfl;refine⟨G,ρ,_,s,en,h,?_⟩;rintro _ ⟨w,rfl,g,h1,f6,hp⟩ vs G1 H1 x1 bw p dx hx hdx ne;cases bw with
 | @cons v _ _ _ dv bw=>
  cases bw;have qm:upd H1 dx (.own p) p=none:=by rw[aw (Ne.symm ne)];exact hx
  have sJ:=(aW hdx (.own p)).trans (aW qm (.ins Z.C dx []));refine⟨p,dx,v,G1,w,rfl,av,x1.sub.trans sJ,x1.sub.free hx,dv,g,h1,f6,λR G2 H2 g1 g2 kp off hp2 p9=>⟨rfl,?_⟩⟩;have gp:G2 p=none:=off p (by rw[av];exact λz=>nomatch z) (x1.sub.free hx)
  refine q _ hp _ (upd G2 p (.ins Z.C dx [("rows", .ref R)])) H2 ⟨(x1.gg.trans g1).trans (aW gp _),λb o e=>?_,λb o e=>?_,λb hb hg=>?_⟩ (.dA av (p9.mono (aW gp _)) g h1 f6)
  ·by_cases z:b=p
   ·subst z;rw[av] at e;cases e;exact hp2
   ·rw[aw z] at e;exact g2 _ _ e
  ·have e1:=x1.hh _ _ e
   exact kp b o (sJ _ _ e1) (aR e1 hx)
  ·have Ud:=eB x1.hh hb
   have nb:b≠p:=λz=>Ud (by rw[z];exact hx)
   rw[aw nb];exact off b (eB sJ Ud) (x1.off b hb hg)
end
section
variable {Z:DC} {X:Cx} {pos:Pos}
theorem bT.snoc{R:V->D->List Addr->Prop}:∀{vs:List V}{ds:List D}{fs:List Addr}{v:V}{d:D}{f:List Addr},bT R vs ds fs->R v d f->bT R (vs++ [v]) (ds++ [d]) (fs++f)
 |_,_,_,v,d,f, .nil,r=>by simpa using bT.cons r .nil
 |_,_,_,v,d,f, .cons a as,r=>by rw[td];exact .cons a (as.snoc r)
variable {tg iter elt:Expr} {scope:Scope} {NC:List Str} {src:List (Option Nat)} {wi:g5} {g:eO} {tf:gH} {md:List Nat} {rn:Nat}
end
abbrev iW:=inClass
structure BR (Z:DC) (m qual:Str) (st:Stmt) (ps:List Str) where
 f:Addr
 fd:FuncData
 F:ue Z.K m qual st f fd
 b:Binds Z.K fd ps []
 m:Meth Z.K Z.C m f
def qO(K:PySem.W.Frag):Sp:=λvs H Q _=>∃(a:Addr)(ns:List Int),vs= [.ref a]/\bU K H a (ns.map V.int)/\ns.length<=63/\∀H',Q (.bl true) H'
def EE:b9:=λds P=>∃ns:List Int,ds= [.mm ns]/\ns.length<=63/\P (.bl true)
theorem Lg{Z:DC}:∀vs H Q E,qO Z.K vs H Q E->aM Z EE vs H Q E:=by
 rintro vs H Q E ⟨a,ns,rfl,hS,hl,q⟩;exact⟨H,[.mm ns],λd=>d= .bl true, .refl _, .cons (.mm hS hl) .nil,⟨ns,rfl,hl,rfl⟩,λd hd v G' H' x dv=>by subst hd;cases dv;exact q H'⟩
theorem QO(k:Nat){l:PySem.W.OpenLaw}{q:Program}{loose:List Str}{XP:(Str->Option Value)->Heap->Prop}{YP:World->Heap->Prop}{d:DefRec}{K:Params->PySem.W.Frag}(hk1:3*k<150)(hn:l.most=some 63)(Cj:d.params.defaults= [])
  (hY:∀(w:World)(h:Heap),YP w h->(K w.params).In h)
  (F:∀(w:World)(mg:Str->Option Value)(fa:Addr)(h:Heap),(K w.params).In h->h.Ns mainGlobals mg->mg d.name=some (.ref fa)->
   ∃fd:FuncData,(∀(s:Shared)(u:Value),BindsTo s fd ⟨[u],[]⟩ [("_law_script",u)])/\∀base:Heap,(K w.params).In base->base.Ns mainGlobals mg->FnOk l.prog w (K w.params) mg base bQ k fa fd ["_law_script"] (qO (K w.params))):
  PySem.W.WalkO q loose XP YP l.row.toRowW d [] (λf vs=>PySem.call f vs):=
 L2.JY (n:=63) (k:=50) (x:="_law_script") (CX:=λ_=>bQ) (sp:=λw=>qO (K w.params)) hn (by decide) Cj ⟨rfl,by decide,by decide⟩ hY (λw mg fa h a b c=>by
  obtain⟨fd,h1,h2⟩:=F w mg fa h a b c;exact⟨fd,h1,λbase x y=>(h2 base x y).mono (by omega)⟩) (λ_ _ a ns hl _ hS=>⟨a,ns,rfl,hS,hl,λ_=>rfl⟩) λ_ _ _ _ _ z=>z
theorem cH{c:Bool}{A B:Prop}(h1:c=true->A)(h2:c=false->B):if c=true then A else B:=by
 cases c with
 |true=>exact dr (h1 rfl)
 |false=>exact cv (h2 rfl)
theorem qp{i:Nat}{tt:dS}{te:bg}{ρ:DN}{α:Type}(enc:α->D)(p:α->Bool)(f:α->D):∀(ys:List α)(aA:DN)(acc:List D)(N:DN->List D->Prop),(∀y∈ys,∀(Y:D->Prop)(Nn:Prop),(p y=true->Y (f y))->(p y=false->Nn)->tt (ρ.set i (some (enc y))) λb=>if b=true then te (ρ.set i (some (enc y))) Y else Nn)->
  (∃o,aA=ρ.set i o)->acc.length+ys.length<=sizeLine->(∀aA,N aA (acc++(ys.filter p).map f))->lcW (pX i) tt te (ys.map enc) aA acc N
 | [],aA,acc,N,_,_,_,h=>by
  show N aA acc;simpa using h aA
 |y::ys,aA,acc,N,hs,⟨o,ho⟩,hz,h=>by
  show tt (aA.set i (some (enc y))) _;rw[ho,List.set_set];rw[cw] at hz;refine hs y (b6 ..) _ _ (λhp=>⟨by omega,?_⟩) (λhp=>?_)
  ·refine qp enc p f ys _ (acc++ [f y]) N (λz hz=>hs z (bP _ hz)) ⟨_,rfl⟩ (by simp;omega) λwy=>?_
   have:=h wy
   rw[gG,hp] at this;simpa using this
  ·refine qp enc p f ys _ acc N (λz hz=>hs z (bP _ hz)) ⟨_,rfl⟩ (by omega) λwy=>?_
   have:=h wy
   rw[gG,hp] at this;simpa using this
theorem iO{i:Nat}{te:bg}{ρ:DN}{α:Type}(enc:α->D)(f:α->D)(ys:List α)(N:DN->List D->Prop)(hs:∀y∈ys,∀(Y:D->Prop),Y (f y)->te (ρ.set i (some (enc y))) Y)(h0:ρ[i]? =some none)(hz:ys.length<=sizeLine)(h:∀aA,N aA (ys.map f)):lcW (pX i) kd te (ys.map enc) ρ [] N:=by
 refine qp (ρ:=ρ) enc (λ_=>true) f ys ρ [] N (λy hy Y Nn h1 _=>?_) ⟨none,?_⟩ (by simpa using hz) λaA=>by rw[List.filter_eq_self.mpr (λ_ _=>rfl),qX];exact h aA
 ·unfold kd
  dsimp only;rw[if_pos rfl];exact hs y hy Y (h1 rfl)
 ·obtain⟨hi,e⟩:=dE.mp h0
  rw[<-e,List.set_getElem_self]
theorem xE{g:eO}{tb:cN}{E:gu}(I:Nat->DN->Prop):∀(ds:List D)(k:Nat)(ρ:DN),I k ρ->(∀(j:Nat)(d:D)(ρ:DN),ds[j]? =some d->I (k+j) ρ->∀A:DN->Prop,(∀ρ,I (k+j+1) ρ->A ρ)->g d ρ λbo=>tb {nx:=A,ct:=A,bk:=E.nx,rt:=E.rt,xc:=E.xc} bo)->
  (∀ρ,I (k+ds.length) ρ->E.nx ρ)->ko g tb E ds ρ
 | [],k,ρ,h0,hs,he=>he ρ h0
 |d::ds,k,ρ,h0,hs,he=>by
  refine hs 0 d ρ rfl h0 _ λaA h'=>?_
  exact xE I ds (k+1) aA h' (λj d' dQ hj h2 A hA=>by
   refine hs (j+1) d' dQ (by simpa using hj) (by rw[show k+(j+1)=k+1+j by omega];exact h2) A λQW h3=>hA QW ?_
   rw[show k+1+j+1=k+(j+1)+1 by omega];exact h3) (λdQ h2=>he dQ (by rw[cw,show k+(ds.length+1)=k+1+ds.length by omega];exact h2))
theorem bx{g:eO}{tb:cN}{E:gu}{ds:List D}{ρ:DN}(I:Nat->DN->Prop)(h0:I 0 ρ)(hs:∀(j:Nat)(d:D)(ρ:DN),ds[j]? =some d->I j ρ->∀A:DN->Prop,(∀ρ,I (j+1) ρ->A ρ)->g d ρ λbo=>tb {nx:=A,ct:=A,bk:=E.nx,rt:=E.rt,xc:=E.xc} bo)
  (he:∀ρ,I ds.length ρ->E.nx ρ):ko g tb E ds ρ:=xE I ds 0 ρ h0 (λj d ρ hj h A hA=>hs j d ρ hj (by simpa using h) A λaA h'=>hA aA (by simpa using h')) (λρ h=>he ρ (by simpa using h))
theorem Ay{g:eO}{tb:cN}{E:gu}{lo:Int}{n:Nat}{ρ:DN}(I:Nat->DN->Prop)(h0:I 0 ρ)(hs:∀(j:Nat)(ρ:DN),j<n->I j ρ->∀A:DN->Prop,(∀ρ,I (j+1) ρ->A ρ)->g (.int (lo+j)) ρ λbo=>tb {nx:=A,ct:=A,bk:=E.nx,rt:=E.rt,xc:=E.xc} bo)
  (he:∀ρ,I n ρ->E.nx ρ):ko g tb E (cW lo n) ρ:=by
 have l:(cW lo n).length=n:=by unfold cW;simp
 refine bx I h0 (λj d ρ hj h A hA=>?_) (λρ h=>he ρ (by rw[l] at h;exact h))
 have cG:j<n:=by
  have:=(dE.mp hj).1
  rw[l] at this;exact this
 rw[sN cG] at hj;cases Option.some.inj hj;exact hs j ρ cG h A hA
theorem lK{c:dS}{tb:cN}{E:gu}{ρ:DN}(I:Nat->DN->Prop)(m0:Nat)(h0:I m0 ρ)(hs:∀m ρ,I m ρ->c ρ λb=>if b=true then tb {nx:=λaA=>∃m',m'<m/\I m' aA,ct:=λaA=>∃m',m'<m/\I m' aA,bk:=E.nx,rt:=E.rt,xc:=E.xc} ρ else E.nx ρ):D4 c tb E ρ:=⟨I,⟨m0,h0⟩,hs⟩
def Q6(K:PySem.W.Frag)(a:Addr)(n:Nat):It:=
 ⟨λi H=>i<n/\∃xs,bU K H a xs/\xs.length=n,λi H x H'=>H'=H/\∀xs,bU K H a xs->xs[n-1-i]? =some x,λi H=>n<=i⟩
theorem Gh{P:Program}{w:World}{K:PySem.W.Frag}{tg:Expr}(a it:Addr)(n:Nat):Turn P w K tg (Q6 K a n) [it] it (λi h=>i<=n/\h.IsRevIter it a ((n:Int)-1-(i:Int))) where
 mem:=by simp
 obj:=λi h st b hb=>by
  have e:b=it:=by simpa using hb
  subst e;obtain⟨_,o,e,c,d⟩:=st;exact⟨o,e,λv z=>by rw[d] at z;cases z⟩
 keep:=λi h h' st k=>⟨st.1,st.2.at λo e=>k it (by simp) o e⟩
 item:=by
  intro X hP hw hK hc i pins s σ H E I hf st hg;rfl';subst hP hw hK;obtain⟨hi,xs,hq,hl⟩:=hg;obtain⟨its,rv,p,hz⟩:=I.list hq;have hlen:=rv.length;have hx:xs[n-1-i]? =some (xs[n-1-i]'(by omega)):=bO (by omega)
  obtain⟨u,hu,ru⟩:=rv.get hx;obtain⟨f0,f1,f2,f3,f4,f5⟩:=hf it (by simp)
  have e:(n:Int)-1-(i:Int)=((n-1-i:Nat):Int):=by omega
  obtain⟨_,st⟩:=st;rw[e] at st;ac_rfl;refine wpAny_pyNext_rev_item st p.isList (x:=u) (by simpa using hu) λh' zI sb=>?_
  have I1:Inv X pins σ H {s with heap:=h'}:=I.turned (t':=s.toks) (λb o hb e=>(sb.2 b hb).trans e) f0 f1 f3 f4 f5
  have e2:((n-1-i:Nat):Int)-1=(n:Int)-1-((i+1:Nat):Int):=by omega
  rw[e2] at zI;obtain⟨o,e,c,d⟩:=id zI;exact⟨u,rfl,B9 (s:={s with heap:=h'}) e c d (by decide) ⟨_,H,I1,ru,⟨rfl,λys hy=>by rw[I.rP hy hq];exact hx⟩,⟨hi,zI⟩,λb hb=>(hf b hb).1⟩⟩
 done:=by
  intro X hP hw hK hc i pins s σ H E I hf st hg;rfl';subst hP hw hK;obtain⟨hi,st⟩:=st;have hg:n<=i:=hg;have e:(n:Int)-1-(i:Int)= -1:=by omega
  rw[e] at st;obtain⟨f0,f1,f2,f3,f4,f5⟩:=hf it (by simp)
  ac_rfl;exact wpAny_pyNext_rev_end (I.ok.hd hc) st λh' eb=>⟨rfl,I.turned (t':=s.toks) (λb o hb e=>eb b o hb e) f0 f1 f3 f4 f5⟩
 self:=λ_ _ _ _ _ st h=>wpAny_pyIter_revIter st.2 h
theorem pO:bootBuiltins "reversed"=some (.type "reversed"):=by decide+kernel
section
variable {Z:DC} {X:Cx} {a b c e:Expr} {ta tb te:bg} {t:gn} {pos:Pos}
def UY(K:PySem.W.Frag)(ta:TA):TI:=λσ H R=>ta σ H λvs H1=>∃a xs,vs= [.ref a]/\bU K H1 a xs/\R (Q6 K a xs.length) H1
theorem LR{tg:Expr}{ta:TA}{p:Pos}(hg:Gl X "reversed")(hm:X.mg "reversed"=none)(ha:PA X [a] ta)(hs:starEach [a] X.env= [(false,eval a X.env)]:=by rfl):
  PI X tg (.Call (.Name "reversed" p) [a] [] pos) (UY X.K ta):=by
 intro pins s σ H R I h;refine Call_ (gz I hg hm pO (PyProof.Rows.callWith_type1 (thn (ha pos pins s σ H _ I h) λus s1 ⟨vs,H1,I1,r1,q1⟩=>?_) hs rfl));rfl';obtain⟨l,xs,e,hl,q⟩:=q1;subst e;obtain⟨u,rfl,ru⟩:=r1.one;subst ru;obtain⟨its,rv,p,hz⟩:=I1.list hl;have hlen:=rv.length;ac_rfl;refine call_reversed_list p.isList ?_;have hit:(s1.heap.push (revObj l ((its.toArray.size:Int)-1))).IsRevIter s1.heap.objs.size l ((xs.length:Int)-1-((0:Nat):Int)):=⟨_,Heap.get?_push_size _ rfl,rfl,by simp[revObj,hlen]⟩
 refine wpAny_pyIter_revIter hit ?_;refine⟨s1.heap.objs.size,[s1.heap.objs.size],_,_,H1,rfl,I1.kept (t':=s1.toks) λb o e=>Heap.get?_push_of_some _ e,Gh l _ xs.length,⟨cM _,hit⟩,λb hb=>?_,q⟩;have e:b=s1.heap.objs.size:=by simpa using hb
 subst e;exact I1.AA (bC _) (I1.hok.fresh (bC _))
def OW(t:gn):g5:=λρ P=>t ρ λds=>match ds with
 | [.lst l]=>P l.reverse
 |_=>False
theorem Ky{tg:Expr}{p:Pos}(hg:Gl X "reversed")(hm:X.mg "reversed"=none)(ha:DA Z X [a] t)(hs:starEach [a] X.env= [(false,eval a X.env)]:=by rfl):DI Z X tg (.Call (.Name "reversed" p) [a] [] pos) (OW t):=by
 refine(LR hg hm ha hs).imp ?_;rintro σ H Q ⟨G,ρ,P,s,en,h,q⟩;refine⟨G,ρ,_,s,en,h,λds hd vs G1 H1 x1 dv=>?_⟩;cases dv with
 |nil=>exact hd.elim
 |cons a as=>
  cases as with
  |cons _ _=>cases a<;>exact hd.elim
  |nil=>
   cases a<;>first|exact hd.elim|skip
   rename_i p xs ds ha e
   refine⟨_,xs,rfl,bU.of (x1.sub _ _ ha),q _ hd _ G1 H1 x1 ?_⟩;intro G2 H2 s1 s2 i;have h2:=bU.of (K:=X.K) (s2 _ _ (s1 _ _ ha));have l:=e.length;rw[wk];refine⟨λhi=>⟨by omega,xs,h2,rfl⟩,λhi=>(show xs.length<=i by omega),?_⟩
   rintro x H' hi ⟨rfl,hx⟩;obtain⟨d,gP,jT⟩:=e.xH (hx _ h2);refine⟨G2,d, .refl s2,?_,jT.mono s1⟩;rw[List.getElem?_reverse hi,<-l];exact gP
theorem Fb:MD X (NO X.K):=by
 intro pins s σ H x y v u Q I rx ry h;rfl';obtain⟨p,xs,i,z,rfl,rfl,hq,he,q⟩:=h;subst rx;obtain⟨t,rfl⟩:=ry;obtain⟨its,r,pl,hz⟩:=I.list hq;obtain⟨j,h1,h2,h3,h4,h5⟩:=uq he;obtain⟨w,ew,vO⟩:=r.get h2;have hl:=r.length;have hn:=jH;have fin:EP X pins σ Q w s:=⟨z,H,I,vO,q⟩;ac_rfl
 by_cases h0:0<=i
 ·have hj:i.toNat=j:=by
   rw[seqIndex_of h0 h5] at h1;exact Option.some.inj h1
  exact wpAny_getItem_list pl.isList h0 (by omega) (by rw[hj];simpa using ew) fin
 ·have hj:(i+(its.toArray.size:Int)).toNat=j:=by
   rw[seqIndex_neg (by omega) h4] at h1
   rw[cL,<-hl];exact Option.some.inj h1
  exact wpAny_getItem_list_neg pl.isList (by omega) (by rw[cL]<;>omega) (by omega) (by rw[hj];simpa using ew) fin
variable {md:List Nat} {rn:Nat} {k:Expr} {tk:bg}
def Km(i:Nat)(f:Int->Int->Int)(tk te:bg):cN:=λE ρ=>∃ds,ρ[i]? =some (some (.lst ds))/\tk ρ λkk=>∃k j n,kk= .int k/\jj ds.length k=some j/\ds[j]? =some (.int n)/\te ρ λd=>∃q,d= .int q/\E.nx (ρ.set i (some (.lst (ds.set j (.int (f n q))))))
theorem xk(i:Nat){x:Str}{op:Operator}{f:Int->Int->Int}{px ps:Pos}(hk:DE Z X k tk)(ho:N6 X op (U2 f))(he:DE Z X e te)(hm:md.getD i 0=1:=by rfl)
  (hi:X.N[i]? =some x:=by rfl) (hv:kT X.env.scope x:=by first|exact Or.inl rfl|exact Or.inr (Or.inl rfl) |exact Or.inr (Or.inr rfl)) (hd:(x==("__debug__":Str))=false:=by decide) (dG:(x==("__classdict__":Str))=false:=by decide)
  (ha:∀ov iv new,augStore k ov iv new=(do holding [new,ov,iv] (setItem ov iv new);release [new,ov,iv] [];pure .next):=by intros;rfl):DSt Z X md rn (.AugAssign (.Subscript (.Name x px) k ps) op e pos) (Km i f tk te):=by
 refine(Jb (pv i hi hv hd dG) hk Fb he ho set_list ha).imp ?_;intro D σ H aJ;rfl';obtain⟨B,ρ,E,⟨G,fp,S⟩,⟨ds,h1,h⟩,M⟩:=aJ;ac_rfl;rfl';obtain⟨l,xs,_,_,e2,e3,_⟩:=S.one hm h1;ac_rfl;refine⟨_,e2,S.ev true h ?_⟩;intro _ QS;rfl';obtain⟨k,j,n,rfl,hj,hn,h⟩:=QS;ac_rfl;refine⟨rfl,λv1 G1 H1 S1 x1 rD=>?_⟩;rfl';cases rD.ofInt;obtain⟨l1,J2,ds1,e1,gI,uP,bw,_⟩:=S1.one hm h1;cases e1;ac_rfl;rw[e2] at gI;rfl';cases gI;obtain⟨v,zd,dv⟩:=bw.get hn;cases dv.ofInt;ac_rfl;refine⟨l,J2,k, .int n,rfl,rfl,bU.of uP,DV bw.length hj zd,S1.ev true h ?_⟩;rintro _ ⟨q,rfl,h⟩;refine⟨rfl,λv2 G2 H2 S2 x2 p9=>?_⟩;rfl';cases p9.ofInt;obtain⟨l2,Mv,OY,e1,Nt,TB,Nr,put⟩:=S2.one hm h1;cases e1;ac_rfl;rw[e2] at Nt;cases Nt;exact⟨n,q,rfl,rfl,l,Mv,k,j,rfl,rfl,TB,by rw[Nr.length];exact hj,M.nx _ h _ _ ⟨G2,fp,put _ _ (Nr.set (.int _) j)⟩⟩
variable {apos aU:Pos}
variable {es:List Expr}
def Hk(sd:b9)(t:gn):gH:=λρ P=>t ρ λas=>sd as λd=>∃ds,d= .lst ds/\P ds
theorem Ha{n:Nat}{sd:b9}{k:Nat}{f:Addr}{fd:FuncData}{ps:List Str}{x:Str}{p:Pos}(F:FnOk X.prog X.w X.K X.mg X.base bQ k f fd ps (gB Z n sd))(hr:cn k X.A)(hg:Gl X x)(hm:X.mg x=some (.ref f))(hk:PySem.W.keepIn X.K (.ref f)=true)(hb:Binds X.K fd ps [])
  (ha:DA Z X (e::es) t) (ij:(x==("__debug__":Str))=false:=by decide) (he:starEach (e::es) X.env=(false,eval e X.env)::starEach es X.env:=by rfl) (eG:(backTo pos (starEach es X.env)).any (·.1)=false:=by rfl):
  DF Z X n (.Call (.Name x p) (e::es) [] pos) (Hk sd t):=by
 refine(qx F hr hg hm hk hb .nil pC ha ij he eG).imp ?_;intro σ H Q aJ;rfl';obtain⟨G,ρ,P,s,en,h,q⟩:=aJ;ac_rfl;refine⟨G,ρ,_,s,en,h,λds hd vs G1 H1 x1 bw=>?_⟩;show gB Z n sd (vs++ []) H1 Q E0;rw[kP];refine⟨G1,ds,_,x1.sub,bw,hd,?_⟩;intro _ QS v f G2 H2 x2 o nd nw;rfl';obtain⟨fY,rfl,hp⟩:=QS;ac_rfl;exact q _ hp v f G2 H2 (x1.trans x2) o nd λb hb=>⟨x1.hh.free (nw b hb).1,(nw b hb).2⟩
end
section
variable {X:Cx} {elt t0 i0 t1 i1:Expr} {f0 f1:List Expr} {scope:Scope} {pos:Pos} {wi eC:TI} {g g1:TG} {tt dz:TT} {te:TE} {src:List (Option Nat)} {NC:List Str}
def JO(wi:TI)(g:TG)(tt:TT)(eC:TI)(g1:TG)(dz:TT)(te:TE)(src:List (Option Nat))(i:Nat):TS:=λD σ H=>JP wi g tt eC g1 dz te src σ H λv H'=>D.nx (σ.set i (some v)) H'
theorem C6{i:Nat}{x:Str}{px jM:Pos}(hc:X.calm=true)(hN:X.N.Nodup)(gJ:X.N[i]? =some x)(hx:Loc X.env.scope x)(c:cj X scope)(eJ:cQ scope X.N src NC)(hi:PI X t0 i0 wi)
  (hg:∀ex s H,PG (cg X scope NC ex s H) t0 g) (ht:∀ex s H,kS (cg X scope NC ex s H) f0 tt) (kZ:∀ex s H,PI (cg X scope NC ex s H) t1 i1 eC) (y4:∀ex s H,PG (cg X scope NC ex s H) t1 g1)
  (zb:∀ex s H,kS (cg X scope NC ex s H) f1 dz) (he:∀ex s H,PE (cg X scope NC ex s H) elt te)
  (jU:swapsWith (.ListComp elt [⟨t0,i0,f0,0⟩,⟨t1,i1,f1,0⟩] scope pos) (some (.Name x px)) jM.line X.env=pure true)
  (hf:X.fn x=true\/X.env.scope.names.lookup x=some .local:=by first|exact .inl rfl|exact .inr rfl|assumption)
  (hs:∀x,foldedSetIterable i0 X.env x=pure x:=by intro _;rfl) (mj:∀env x,foldedSetIterable i1 env x=pure x:=by intro _ _;rfl):PS X (.Assign [.Name x px] (.ListComp elt [⟨t0,i0,f0,0⟩,⟨t1,i1,f1,0⟩] scope pos) jM) (JO wi g tt eC g1 dz te src i):=by
 intro pins s σ H D I h;rw[exec_Assign_Name_used _ _ _ _ jU];refine wpAny_bind (wpAny_standAt (wpAny_bind ?_));show wpAny _ X.A (do let _ <-comprehension (.ListComp elt [⟨t0,i0,f0,0⟩,⟨t1,i1,f1,0⟩] scope pos) scope X.env _ (newList []) false (eval i0 X.env) (some (assign (.Name x px) X.env))) _ _ s
 refine wpAny_bind (wpAny_mono (wpAny_comprehension_free (use:=some (assign (.Name x px) X.env)) (Q:=λ_ s'=>SP X pins D .next s') rfl hs (fD (c.cells I.ok)) c.kind c.names
  (thn (hi pins s σ H _ I h) λv s1 h1=>thn h1 λCu s2 h2=>?_)) (λ_ s' hq=>wpAny_pure (wpAny_pure hq)) λ_ _ e=>e)
 rfl';obtain⟨it,fp,tn,J,H2,rfl,I2,T,nB,f2,hW⟩:=h2;ac_rfl;refine pQ (RR:=λacc C=>compPost (model X.prog X.w) X.A X.xe (some (assign (.Name x px) X.env)) (λ_ s'=>SP X pins D .next s') acc C) (Q:=λv H'=>D.nx (σ.set i (some v)) H') hc c eJ I2 T nB f2 hg ht kZ y4 zb he mj hW ?_;intro a s3 H3 az H' s' I3 f3 J' q;obtain⟨m,hn,_⟩:=J'.loc;have IX:Inv X pins σ H' s':=comp_back I3 f3 J' (.refl ..);have nL:s3.heap.objs.size≠X.env.locals:=Nat.ne_of_gt I3.lt
 have nc:∀y d,X.env.cells.lookup y=some d->d≠s3.heap.objs.size:=λy d e z=>by
  obtain⟨v,hv⟩:=I3.cell y d e
  have:=hv.lt
  rw[z] at this;exact absurd this (fz _)
 have np:∀p∈X.pn++pins,p.1≠s3.heap.objs.size:=λp hp z=>by
  have:=Heap.lt_size (I3.pin p hp).1
  rw[z] at this;exact absurd this (fz _)
 rfl';obtain⟨oC,es,ep,PM,Ci,rC⟩:=id hn;have Hy:H' s3.heap.objs.size=none:=J'.free;ac_rfl
 have IP:Inv X ((s3.heap.objs.size,oC)::pins) σ H' s':=IX.kE λp hp=>by
  rcases cm.mp hp with z|z
  ·rw[z]
   exact⟨PM,Hy,nL,I3.Ip (bC _),λv w=>by rw[Ci] at w;cases w⟩
  ·exact IX.pin p (fN _ z)
 refine wpAny_assign_Name (i7 (x:=x) IP hN gJ hx (v:= .ref a) rfl (λs5 I5=>?_) hf);have Pf:=(I5.pin (s3.heap.objs.size,oC) (fN _ b6)).1;refine⟨m,⟨oC,es,ep,Pf,Ci,rC⟩,λh6 sb=>?_⟩;have Gm:Inv X pins (σ.set i (some (.ref a))) H' s5:=I5.kE λp hp=>I5.pin p (fN _ (bP _ hp));exact⟨_,H',Gm.turned (t':=s5.toks) (it:=s3.heap.objs.size) (λb o hb e=>sb.extBut b o hb e) Hy nL (.inr I3.sz) nc np,q⟩
end
section
variable {Z:DC} {X:Cx} {md:List Nat} {rn:Nat} {elt t0 i0 t1 i1:Expr} {f0 f1:List Expr} {scope:Scope} {pos:Pos} {wi eC:g5} {g g1:eO} {tt dz:dS} {te:bg} {src:List (Option Nat)} {NC:List Str}
theorem B5(i:Nat){x:Str}{px jM:Pos}(hc:X.calm=true)(hN:X.N.Nodup)(c:cj X scope)(eJ:cQ scope X.N src NC)(hi:DI Z X t0 i0 wi)
  (hg:∀ex s H,DG Z (cg X scope NC ex s H) t0 g) (ht:∀ex s H,wz Z (cg X scope NC ex s H) f0 tt) (kZ:∀ex s H,DI Z (cg X scope NC ex s H) t1 i1 eC) (y4:∀ex s H,DG Z (cg X scope NC ex s H) t1 g1)
  (zb:∀ex s H,wz Z (cg X scope NC ex s H) f1 dz) (he:∀ex s H,DE Z (cg X scope NC ex s H) elt te)
  (jU:swapsWith (.ListComp elt [⟨t0,i0,f0,0⟩,⟨t1,i1,f1,0⟩] scope pos) (some (.Name x px)) jM.line X.env=pure true:=by rfl) (hm:md.getD i 0=0:=by rfl) (gJ:X.N[i]? =some x:=by rfl) (hx:Loc X.env.scope x:=by first|exact Or.inl rfl|exact Or.inr rfl)
  (hf:X.fn x=true\/X.env.scope.names.lookup x=some .local:=by first|exact .inl rfl|exact .inr rfl|assumption)
  (hs:∀x,foldedSetIterable i0 X.env x=pure x:=by intro _;rfl) (mj:∀env x,foldedSetIterable i1 env x=pure x:=by intro _ _;rfl):
  DSt Z X md rn (.Assign [.Name x px] (.ListComp elt [⟨t0,i0,f0,0⟩,⟨t1,i1,f1,0⟩] scope pos) jM) (Ah md false i (GU wi g tt eC g1 dz te src)):=by
 refine(C6 hc hN gJ hx c eJ hi hg ht kZ y4 zb he jU hf hs mj).imp ?_;intro D σ H aJ;rfl';obtain⟨B,ρ,E,⟨G,fp,S⟩,h,M⟩:=aJ;ac_rfl;refine AY σ H _ (S.ev false h λd hd=>⟨hd.1,λv G' H' S' x dv=>M.nx _ hd.2 _ _ ⟨G',_,S'.nA hm dv⟩⟩)
end
section
variable {Z:DC} {X:Cx} {md:List Nat} {rn:Nat} {e:Expr} {pos:Pos}
theorem DvAll.flat{G G':Hp}:∀{vs:List V}{ds:List D},DvAll Z G vs ds->ds.all eS=true->DvAll Z G' vs ds
 |_,_, .nil,_=> .nil
 |_,_, .cons a as,h=>by
  rw[r6,ma] at h;exact .cons (a.flat h.1) (as.flat h.2)
end
theorem eQ{l:List D}{j:Nat}{d:D}(h:(gw l)[j]? =some d):∃x,l[j]? =some x/\d= .tup [.int (j:Int),x]:=by
 unfold gw at h;rw[List.getElem?_mapIdx] at h;cases e:l[j]? with
 |none=>rw[e] at h;cases h
 |some x=>rw[e] at h;cases h;exact⟨x,rfl,rfl⟩
theorem fo(l:List D):(gw l).length=l.length:=by unfold gw;simp
theorem bN{α β:Type}{f:α->β}{l:List α}{j:Nat}{y:β}(h:(l.map f)[j]? =some y):∃x,l[j]? =some x/\y=f x:=by
 rw[cA] at h;cases e:l[j]? with
 |none=>rw[e] at h;cases h
 |some x=>rw[e] at h;cases h;exact⟨x,rfl,rfl⟩
theorem bz(r:List Nat):(r.map af).all eS=true:=by simp[af,eS]
theorem mM{r:List Nat}{p:Nat}:inD (af p) (r.map af)=decide (p∈r):=by
 unfold inD;rw[List.any_map]
 have:((λy=>iE y (af p))∘af)=λq:Nat=>decide (q=p):=by
  funext q
  simp[af,iE,Function.comp]
  by_cases z:q=p
  ·simp[z]
  ·have:¬(q:Int)=(p:Int):=by omega
   simp[z,this]
 rw[this]
 by_cases h:p∈r
 ·rw[decide_eq_true h,List.any_eq_true];exact⟨p,h,by simp⟩
 ·rw[decide_eq_false h]
  apply yF.mpr;intro z;rw[List.any_eq_true] at z;obtain⟨q,hq,e⟩:=z
  exact h (by have:q=p:=by simpa using e
              rw[<-this];exact hq)
theorem fB{l:List D}{p:Nat}{d:D}(h:l[p]? =some d):fO l (p:Int)=some d:=zY h
theorem nG{w:List (List Nat)}{p:Nat}(h:p<w.length):(w.map ar)[p]? =some (ar (Wb.row w p)):=by
 rw[cA,Wb.Bi h];rfl
section
variable {Z:DC} {X:Cx} {md:List Nat} {rn:Nat} {e:Expr} {te:bg} {pos:Pos}
def OJ(te:bg):cN:=λE ρ=>te ρ λ_=>E.nx ρ
theorem uJ(he:DE Z X e te)(hs:swapsWith e none pos.line X.env=pure false:=by rfl):DSt Z X md rn (.Expr e pos) (OJ te):=by
 refine(kG he hs).imp ?_;intro D σ H aJ;rfl';obtain⟨B,ρ,E,⟨G,fp,S⟩,h,M⟩:=aJ;ac_rfl;exact⟨H,ρ,_, .refl _,S.Aq,h,λd hd v G' H' x dv=>M.nx _ hd _ _ ⟨G,fp,S.grow (Ext.all S.ex.sub x)⟩⟩
end
theorem J3{ρ:DN}{A B:Prop}(h:A):kd ρ (λb=>if b=true then A else B):=by
 unfold kd;dsimp only;rw[if_pos rfl];exact h
theorem AM{c:Bool}{A B:Prop}(e:c=false)(h:B):if c=true then A else B:=by rw[if_neg (by rw[e];exact cK)];exact h
theorem iP{g:eO}{tt:dS}{te:bg}{α:Type}(I:DN->Prop)(enc:α->D)(p:α->Bool)(f:α->D):∀(ys:List α)(aA:DN)(acc:List D)(N:DN->List D->Prop),(∀y∈ys,∀aA,I aA->∀(Y:DN->D->Prop)(Nn:DN->Prop),(∀bo,I bo->p y=true->Y bo (f y))->(∀bo,I bo->p y=false->Nn bo)->g (enc y) aA λbo=>tt bo λb=>if b=true then te bo (Y bo) else Nn bo)->
  I aA->acc.length+ys.length<=sizeLine->(∀aA,I aA->N aA (acc++(ys.filter p).map f))->lcW g tt te (ys.map enc) aA acc N
 | [],aA,acc,N,_,hI,_,h=>by
  show N aA acc;simpa using h aA hI
 |y::ys,aA,acc,N,hs,hI,hz,h=>by
  rw[cw] at hz;refine hs y (b6 ..) aA hI (λbo d=>acc.length<sizeLine/\lcW g tt te (ys.map enc) bo (acc++ [d]) N) (λbo=>lcW g tt te (ys.map enc) bo acc N) (λbo h1 hp=>⟨by omega,?_⟩) (λbo h1 hp=>?_)
  ·refine iP I enc p f ys _ (acc++ [f y]) N (λz hz=>hs z (bP _ hz)) h1 (by simp;omega) λwy h2=>?_
   have:=h wy h2
   rw[gG,hp] at this;simpa using this
  ·refine iP I enc p f ys _ acc N (λz hz=>hs z (bP _ hz)) h1 (by omega) λwy h2=>?_
   have:=h wy h2
   rw[gG,hp] at this;simpa using this
theorem AR{g:eO}{eC:g5}{g1:eO}{te:bg}{α β:Type}(I:DN->Prop)(enc:α->D)(f:α->List β)(iD:β->D):∀(ys:List α)(aA:DN)(acc:List β)(P:List D->Prop),
  (∀y∈ys,∀aA,I aA->∀(Y:DN->List D->Prop),(∀bo,I bo->Y bo ((f y).map iD))->g (enc y) aA λbo=>eC bo (Y bo))->
  (∀y∈ys,∀b∈f y,∀aA,I aA->∀(Y:DN->D->Prop),(∀bo,I bo->Y bo (iD b))->g1 (iD b) aA λbo=>te bo (Y bo))->
  I aA->acc.length+(ys.flatMap f).length<=sizeLine->P ((acc++ys.flatMap f).map iD)->lN g kd eC g1 kd te (ys.map enc) aA (acc.map iD) P
 | [],aA,acc,P,_,_,hI,_,h=>by
  show P (acc.map iD);simpa using h
 |y::ys,aA,acc,P,h1,h2,hI,hz,h=>by
  rw[nO,cx] at hz;refine h1 y (b6 ..) aA hI (λbo es=>lcW g1 kd te es bo (acc.map iD) λdQ pN=>lN g kd eC g1 kd te (ys.map enc) dQ pN P) λbo hI1=>?_;refine iP I iD (λ_=>true) iD (f y) bo (acc.map iD) _ (λb hb dQ Pj Y Nn hY _=>?_) hI1 (by rw[aG];omega) λdQ Pj=>?_
  ·exact h2 y (b6 ..) b hb dQ Pj Y λQW h3=>hY QW h3 rfl
  ·rw[List.filter_eq_self.mpr (λ_ _=>rfl),<-dO]
   refine AR I enc f iD ys dQ (acc++f y) P (λz hz=>h1 z (bP _ hz)) (λz hz=>h2 z (bP _ hz)) Pj (by rw[cx];omega) ?_
   rw[nO] at h;rw[td];exact h
theorem yA{α:Type}(enc:α->D):∀(u v:List α),nJ (u.map enc) (v.map enc)=(u.zip v).map λy=> .tup [enc y.1,enc y.2]
 | [],_=>by simp[nJ]
 |_::_,[]=>by simp[nJ]
 |a::u,b::v=>by
  have:=yA enc u v
  simp[nJ] at this ⊢;exact this
theorem ft{α:Type}{us:List α}(h:us.length=1):∃a0,us= [a0]:=by
 cases us with
 |nil=>cases h
 |cons a l=>
  cases l with
  |nil=>exact⟨a,rfl⟩
  |cons _ _=>cases h
theorem jF{α:Type}{us:List α}(h:us.length=2):∃a0 a1,us= [a0,a1]:=by
 cases us with
 |nil=>cases h
 |cons a l=>
  obtain⟨a1,rfl⟩:=ft (Nat.succ.inj h);exact⟨a,a1,rfl⟩
theorem sL{α:Type}{us:List α}(h:us.length=3):∃a0 a1 a2,us= [a0,a1,a2]:=by
 cases us with
 |nil=>cases h
 |cons a l=>
  obtain⟨a1,a2,rfl⟩:=jF (Nat.succ.inj h);exact⟨a,a1,a2,rfl⟩
section
variable {Z:DC} {X:Cx} {e:Expr} {es:List Expr} {t:gn} {pos:Pos}
theorem aE{sd:b9}{k j:Nat}{x:Str}{st:Stmt}{ps:List Str}{p:Pos}(d:dF X.K X.mg x st ps)(F:FnOk X.prog X.w X.K X.mg X.base bQ k d.f d.fd ps (aM Z sd))(hr:cn j X.A)(ha:DA Z X (e::es) t)(hg:Gl X x:=by rfl)(hk:k<=j:=by first|decide|omega)
  (ij:(x==("__debug__":Str))=false:=by decide) (he:starEach (e::es) X.env=(false,eval e X.env)::starEach es X.env:=by rfl) (eG:(backTo pos (starEach es X.env)).any (·.1)=false:=by rfl):
  DE Z X (.Call (.Name x p) (e::es) [] pos) (mE sd t):=GY F (hr.mono hk) hg d.m d.F.kp d.b ha ij he eG
theorem kg{n:Nat}{sd:b9}{k j:Nat}{x:Str}{st:Stmt}{ps:List Str}{p:Pos}(d:dF X.K X.mg x st ps)(F:FnOk X.prog X.w X.K X.mg X.base bQ k d.f d.fd ps (gB Z n sd))(hr:cn j X.A)(ha:DA Z X (e::es) t)(hg:Gl X x:=by rfl)(hk:k<=j:=by first|decide|omega)
  (ij:(x==("__debug__":Str))=false:=by decide) (he:starEach (e::es) X.env=(false,eval e X.env)::starEach es X.env:=by rfl) (eG:(backTo pos (starEach es X.env)).any (·.1)=false:=by rfl):
  DF Z X n (.Call (.Name x p) (e::es) [] pos) (Hk sd t):=Ha F (hr.mono hk) hg d.m d.F.kp d.b ha ij he eG
theorem mh{scope:Scope}(sc:Scope)(e:X.env.scope=sc:=by rfl)(k:scope.kind= .function:=by rfl)(a:∀x∈scope.names,x.2= .local->scope.names.lookup x.1=some .local:=by decide+kernel)(b:∀x∈scope.names,x.2≠ .cell:=by decide+kernel)
  (c:∀x∈scope.names,x.2= .free->sc.names.lookup x.1=some .cell\/sc.names.lookup x.1=some .free:=by decide+kernel):cj X scope:=cj.of sc e k a b c
end
section
variable {K:PySem.W.Frag} {h:Heap} {mg:Str->Option Value}
abbrev eX(K:PySem.W.Frag)(x:Str)(d:Addr):Prop:=PySem.W.nsIn K mainGlobals x=some (some (.ref d))
abbrev df(K:PySem.W.Frag)(x qual:Str)(st:Stmt)(d:Addr)(od an:Option Addr)(sl:Array (Option Value))(oc kV dc pm cd ct:Value):Prop:=K.lookup d=some ⟨oc,od, .func (PySem.W.fnOf x qual (je st) (fm st) (aq st) .none kV dc pm an cd ct),sl⟩
def dF.of{x:Str}{st:Stmt}{ps:List Str}{d:Addr}{od an:Option Addr}{sl:Array (Option Value)}{oc kV dc pm cd ct:Value}(X:K.In h)(G:h.Ns mainGlobals mg)(a:eX K x d)(l:df K x x st d od an sl oc kV dc pm cd ct)(c:PySem.W.codeIn K cd x=true)(k:PySem.W.keepIn K (.ref d)=true)
  (b:∀(kV doc pm:Value)(an:Option Addr)(bh ct:Value)(us:List Value),us.length=ps.length->bindArgs (PySem.W.fnOf x x (je st) (fm st) (aq st) .none kV doc pm an bh ct) ⟨us,[]⟩=pure (ps.zip us)):dF K mg x st ps:=
 ⟨d,_,qi l c k,(qi l c k).binds b,PySem.W.mg_of X G a⟩
def BR.of{Z:DC}{m qual:Str}{st:Stmt}{ps:List Str}{d:Addr}{od an:Option Addr}{sl:Array (Option Value)}{oc kV dc pm cd ct:Value}(a:PySem.W.findIn Z.K (.ref Z.C) m=some (some (.ref d)))(f:PySem.W.isFn Z.K (.ref d)=true)(l:df Z.K m qual st d od an sl oc kV dc pm cd ct)(c:PySem.W.codeIn Z.K cd qual=true)(k:PySem.W.keepIn Z.K (.ref d)=true)
  (b:∀(kV doc pm:Value)(an:Option Addr)(bh ct:Value)(us:List Value),us.length=ps.length->bindArgs (PySem.W.fnOf m qual (je st) (fm st) (aq st) .none kV doc pm an bh ct) ⟨us,[]⟩=pure (ps.zip us)):BR Z m qual st ps:=
 ⟨d,_,qi l c k,(qi l c k).binds b,⟨a,f,k⟩⟩
end
end L2
namespace Wb
def fX(w:W):Nat:=(w.map List.length).sum
theorem mG{r:List Nat}:∀{w:W}{p:Nat},p<w.length->fX (w.set p r)+(row w p).length=fX w+r.length
 | [],_,h=>by simp at h
 |a::w,0,_=>by simp[fX,row];omega
 |a::w,p+1,h=>by
  have ih:=mG (r:=r) (w:=w) (p:=p) (by simpa using h)
  have e:row (a::w) (p+1)=row w p:=by simp[row]
  rw[e];simp only[fX,List.set_cons_succ,iJ,List.sum_cons] at ih ⊢;omega
theorem xj(w:W)(r:List Nat):fX (w++ [r])=fX w+r.length:=by simp[fX]
theorem FN{l l':List Nat}(h:l.Perm l'):l.sum=l'.sum:=by
 induction h with
 |nil=>rfl
 |cons x _ ih=>simp[ih]
 |swap x y l=>simp;omega
 |trans _ _ ih1 ih2=>exact ih1.trans ih2
theorem rA(w:W):fX w=((List.range w.length).map λp=>(row w p).length).sum:=by
 unfold fX
 congr 1
 refine List.ext_getElem (by simp) λi h1 h2=>?_
 rw[BN,BN,List.getElem_range];have hi:i<w.length:=by simpa using h1
 have:=Bi hi
 rw[bO hi] at this;rw[Option.some.inj this]
theorem G9{w w':W}{ord:List Nat}(hl:w'.length=w.length)(pm:ord.Perm (List.range w.length))(Ee:∀p,p<w.length->(row w' (ord.getD p 0)).Perm ((row w p).map λx=>ord.getD x 0)):fX w'=fX w:=by
 rw[rA w',hl,rA w,<-FN (pm.map λp=>(row w' p).length)]
 congr 1
 have ll:ord.length=w.length:=by rw[pm.length_eq,iI]
 refine List.ext_getElem (by simp[ll]) λi h1 h2=>?_
 rw[BN,BN,List.getElem_range];have hi:i<w.length:=by simpa using h2
 have e:ord.getD i 0=ord[i]'(by rw[ll];exact hi):=by rw[aV,bO (by rw[ll];exact hi)];rfl
 have:=(Ee i hi).length_eq
 rw[aG,e] at this;exact this
theorem jd(w:W):(ba w).length=fX w:=by
 rw[rA];unfold ba;rw[List.length_flatMap]
 congr 1
 apply List.map_congr_left;intro p _;rw[aG]
theorem iL{w:W}(g:Good w):(ba w).Nodup:=by
 unfold ba List.Nodup;refine mS (λp _=>?_) ?_
 ·rw[lZ]
  exact(g.nod p).imp λne e=>ne (congrArg Prod.snd e)
 ·refine List.Pairwise.imp ?_ List.pairwise_lt_range
  intro a b lt x hx y hy e;obtain⟨_,_,rfl⟩:=b8.mp hx;obtain⟨_,_,rfl⟩:=b8.mp hy
  have:=congrArg Prod.fst e
  simp at this;omega
theorem nF(w:W):iS (row w) w.length=(ba w).filter λd=>decide (d.1<d.2):=by
 unfold iS ba;rw[List.filter_flatMap]
 congr 1
 funext p
 rw[List.filter_map];rfl
theorem vY{w:W}(g:Good w):2*(iS (row w) w.length).length<=fX w:=by
 rw[nF,<-jd];have h1:=List.length_eq_countP_add_countP (λd:Nat×Nat=>decide (d.1<d.2)) (l:=ba w)
 have h2:((ba w).filter λd=>decide (d.1<d.2)).length<=((ba w).filter λd=>decide (d.2<d.1)).length:=by
  have:=aQ (l:=((ba w).filter λd=>decide (d.1<d.2)).map λd=>(d.2,d.1)) (m:=(ba w).filter λd=>decide (d.2<d.1)) ?_ ?_
  ·rwa [aG] at this
  ·unfold List.Nodup
   rw[lZ];refine List.Pairwise.imp ?_ ((iL g).filter _);intro a b ne e;have e1:=congrArg Prod.fst e;have e2:=congrArg Prod.snd e;exact ne (Prod.ext e2 e1)
  ·intro x hx
   obtain⟨d,hd,rfl⟩:=b8.mp hx;obtain⟨hd1,hd2⟩:=ib.mp hd;refine ib.mpr ⟨b7.mpr (g.sym _ _ (b7.mp hd1)),?_⟩;simpa using hd2
 have h3:((ba w).filter λd=>decide (d.2<d.1)).length<=(ba w).countP λd=>!decide (d.1<d.2):=by
  rw[<-List.countP_eq_length_filter];apply List.countP_mono_left;intro d _ h;simp at h ⊢;omega
 rw[List.countP_eq_length_filter] at h1
 have h4:(ba w).countP (λd=>!decide (d.1<d.2))=List.countP (λa=>decide ¬(decide (a.1<a.2)=true)) (ba w):=by
  congr 1
  funext d
  by_cases h:d.1<d.2<;>simp[h]
 omega
structure RI (w:W) (bs:List Bool) (ws ex:List Nat) (c:Nat):Prop where
 len:bs.length=w.length
 z:bs[0]? =some true
 wt:∀x∈ws,bs[x]? =some true
 cl:∀x,bs[x]? =some true->x∈ws\/x∈ex\/∀q∈row w x,bs[q]? =some true
 cnt:bs.count false+ws.length<=c
theorem RI.pop{w:W}{bs:List Bool}{ws:List Nat}{p c:Nat}(h:RI w bs (ws++ [p]) [] (c+1)):RI w bs ws [p] c:=
 ⟨h.len,h.z,λx hx=>h.wt x (kM _ hx),λx hx=>by
  rcases h.cl x hx with q|q|q
  ·rcases fK.mp q with q|q
   ·exact .inl q
   ·exact .inr (.inl q)
  ·cases q
  ·exact .inr (.inr q),by have:=h.cnt;rw[cx] at this;simp at this;omega⟩
theorem RI.push{w:W}{bs:List Bool}{ws ex:List Nat}{q c:Nat}(h:RI w bs ws ex c)(hq:bs[q]? =some false):RI w (bs.set q true) (ws++ [q]) ex c:=by
 obtain⟨hl,he⟩:=dE.mp hq
 have up:∀x,bs[x]? =some true->(bs.set q true)[x]? =some true:=λx hx=>by
  rw[hZ]
  by_cases e:q=x
  ·rw[if_pos e,if_pos hl]
  ·rw[if_neg e];exact hx
 refine⟨by rw[dB];exact h.len,up _ h.z,λx hx=>?_,λx hx=>?_,?_⟩
 ·rcases fK.mp hx with z|z
  ·exact up _ (h.wt x z)
  ·have:x=q:=by simpa using z
   rw[this,hZ,if_pos rfl,if_pos hl]
 ·by_cases e:q=x
  ·exact .inl (by rw[e];simp)
  ·rw[hZ,if_neg e] at hx
   rcases h.cl x hx with z|z|z
   ·exact .inl (kM _ z)
   ·exact .inr (.inl z)
   ·exact .inr (.inr λy hy=>up _ (z y hy))
 ·have hc:=h.cnt
  have:0<bs.count false:=List.count_pos_iff.mpr (by rw[<-he];exact wq hl)
  rw[List.count_set hl,he,cx];simp;omega
theorem RI.close{w:W}{bs:List Bool}{ws:List Nat}{p c:Nat}(h:RI w bs ws [p] c)(hp:∀q∈row w p,bs[q]? =some true):RI w bs ws [] c:=
 ⟨h.len,h.z,h.wt,λx hx=>by
  rcases h.cl x hx with q|q|q
  ·exact .inl q
  ·have:x=p:=by simpa using q
   rw[this];exact .inr (.inr hp)
  ·exact .inr (.inr q),h.cnt⟩
theorem RI.all{w:W}{bs:List Bool}{c:Nat}(g:Good w)(h:RI w bs [] [] c):bs=List.replicate w.length true:=by
 have:=z9 g (S:=λx=>bs[x]? =some true) h.z λp q hp hq=>by
  rcases h.cl p hp with z|z|z
  ·cases z
  ·cases z
  ·exact z q hq
 refine wo λi=>?_
 by_cases hi:i<w.length
 ·rw[this i hi,nK,if_pos hi]
 ·rw[fi (by rw[h.len];omega),fi (by simp;omega)]
structure xb (w:W):Prop where
 rng:∀p q,q∈row w p->q<w.length
 irr:∀p,p∉row w p
 nod:∀p,(row w p).Nodup
 sym:∀p q,q∈row w p->p∈row w q
theorem Good.near{w:W}(g:Good w):xb w:=⟨g.rng,g.irr,g.nod,g.sym⟩
theorem xb.good{w:W}(n:xb w)(h:∀p,p<w.length->Reach w 0 p):Good w:=⟨n.rng,n.irr,n.nod,n.sym,h⟩
end Wb
namespace PySem
namespace F
theorem CP:typeLookup (.type "list_reverseiterator") "__len__"=pure none:=by rw[typeLookup_type,builtinLookup_eq_fast];kernel_rfl
theorem Fm:typeLookup (.type "list_reverseiterator") "__length_hint__"=pure (some (.builtin "list_reverseiterator.__length_hint__")):=by rw[typeLookup_type,builtinLookup_eq_fast];kernel_rfl
end F
section
variable {prog:Program} {w:World} {A:Around} {s:Shared} {R:Result->Shared->Prop}
variable {I:Addr} {fp wr:List Addr} {G:Array GenState->Array GenState->Prop} {n:Nat} {P:Nat->Value->Prop} {St:Nat->Shared->Prop}
theorem Ax(W:WalksS prog w A.in1 I fp wr G n P St)(hT:∀i s,St i s->s.TypeIs (.ref I) "list_reverseiterator")(S:Addr)(res:Value)(c₀:Nat)(kz:St 0 s)(Cd:S∉fp)(hI:I∈fp)
  (hS:s.heap.get? S=some {cls:= .type "list",data:= .seq #[] c₀})
  (hR:∀s' eI c',Moved (S::wr) G s s'->s'.heap.get? S=some {cls:= .type "list",dict:=none,data:= .seq eI c',slots:= #[]}->ItemsOf P eI n->R (.ok (.ret res)) s') (hn:n<=sizeLine):
  wpAny (model prog w) A.in1 (Builtin.List.listExtendWith (.ref S) (.ref I) res)
   (λfin s'=>match fin with| .done f=>R (.ok f) s'| .again c'=>c'.quiet=true/\codeAny (model prog w) A c' R s') (λe s'=>R (.error e) s') s:=by
 have hSI:S≠I:=λe=>Cd (e▸hI);unfold Builtin.List.listExtendWith;refine wpAny_bind (wpAny_typeOf (hT 0 _ kz) ?_);have h1:Builtin.List.listSameRef (.ref S) (.ref I)=false:=by simp[Builtin.List.listSameRef,hSI]
 have h2:(Value.type "list_reverseiterator"==Value.type "list")=false:=by decide
 have h3:(Value.type "list_reverseiterator"==Value.type "tuple")=false:=by decide
 simp only[h1,h2,h3,Bool.or_false,hV,if_false];refine wpAny_bind (W.self 0 _ _ _ kz ?_);refine wpAny_bind (wpAny_holding ?_);unfold Builtin.List.listLengthHint;refine wpAny_bind (wpAny_specialOf (hT 0 _ kz) F.CP ?_);refine wpAny_bind (wpAny_specialOf (hT 0 _ kz) F.Fm ?_);generalize Up:("list_reverseiterator.__length_hint__":String)=id0
 wp_delta
 rw[show splitId id0=some ("list_reverseiterator","__length_hint__") from by subst Up;decide+kernel]
 subst Up;refine wpAny_bind (wpAny_isInstance (b:=true) (hT 0 _ kz) (by rw[isSubtype_type];kernel_rfl) ?_)
 refine wpAny_pure ?_;rw[if_neg (by decide)]
 exact wpAny_pure ⟨plainId_quiet F.plain_extend_loop _,codeAny_extend_loopS W hn _ Cd _ n 0 _ _ _ rfl (cM _) kz hS (ItemsOf.nil P) hR⟩
theorem vj(W:WalksS prog w A.in1 I fp wr G n P St)(hT:∀i s,St i s->s.TypeIs (.ref I) "list_reverseiterator")(S:Addr)(kz:St 0 s)(Cd:S∉fp)(hI:I∈fp)
  (hS:s.heap.get? S=some {cls:= .type "list",data:= .seq #[]})
  (hR:∀s' eI c',Moved (S::wr) G s s'->s'.heap.get? S=some {cls:= .type "list",dict:=none,data:= .seq eI c',slots:= #[]}->ItemsOf P eI n->R (.ok (.ret .none)) s') (hn:n<=sizeLine):
  wpAny (model prog w) A.in1 (Builtin.«list.__init__» ⟨[.ref S, .ref I],[]⟩)
   (λfin s'=>match fin with| .done f=>R (.ok f) s'| .again c'=>c'.quiet=true/\codeAny (model prog w) A c' R s') (λe s'=>R (.error e) s') s:=by
 show wpAny _ A.in1 (do let old <-Builtin.List.listItems (.ref S);Builtin.List.listUpdate (.ref S) (λ_=> #[]);letGo old.toList.reverse;Builtin.List.listExtendWith (.ref S) (.ref I) .none) _ _ s
 refine wpAny_bind ?_;unfold Builtin.List.listItems;refine wpAny_bind (wpAny_seqItems hS rfl (wpAny_pure ?_));refine wpAny_bind (wpAny_updateSeq hS rfl ?_);have Pm:=Heap.get?_update_self (Obj.mapSeq (λ_=>(#[]:Array Value))) hS rfl
 have WT:∀b o,b≠S->s.heap.get? b=some o->(s.heap.update S (Obj.mapSeq (λ_=>(#[]:Array Value)))).get? b=some o:=
  λb o hb e=>(Heap.get?_update_other _ _ (Ne.symm hb)).trans e
 refine wpAny_bind (wpAny_letGo ?_);refine Ax W hT S .none _ (W.frame 0 s _ s.toks kz (bC _) λb hb o e=>WT b o (λh=>Cd (h▸hb)) e) Cd hI Pm (λs' eI c' hm Fd xI=>?_) hn;exact hR s' eI c' (Moved.trans W.gtrans ((Moved.refl W.grefl).then_heap (bC _) λb o hb e=>WT b o (λh=>hb (h▸b6)) e) hm) Fd xI
theorem uy{E:Value->Shared->Prop}{Q:Value->Shared->Prop}(W:WalksS prog w A.in1.in1 I fp wr G n P St)(hT:∀i s,St i s->s.TypeIs (.ref I) "list_reverseiterator")(kz:St 0 s)(KR:∀b∈fp,b<s.heap.objs.size)(hI:I∈fp)
  (hQ:∀s' eI c',Moved (s.heap.objs.size::wr) G {s with heap:=s.heap.push {cls:= .type "list",data:= .seq #[]}} s'->
   s'.heap.get? s.heap.objs.size=some {cls:= .type "list",dict:=none,data:= .seq eI c',slots:= #[]}->ItemsOf P eI n->Q (.ref s.heap.objs.size) s') (hn:n<=sizeLine):
  wpAny (model prog w) A (call (.type "list") [.ref I]) Q E s:=by
 have Cd:s.heap.objs.size∉fp:=λhm=>fz _ (KR _ hm)
 refine callType_codes (Q₁:=λobj s₁=>obj= .ref s.heap.objs.size/\s₁={s with heap:=s.heap.push {cls:= .type "list",data:= .seq #[]}}) F.called_list (F.typeCall_list_1 _) F.entry_list_init
  (code_list_new _ ⟨rfl,rfl⟩) λobj s₁ UX=>?_
 obtain⟨rfl,rfl⟩:=UX;have hS:(s.heap.push {cls:= .type "list",data:= .seq #[]}).get? s.heap.objs.size=some {cls:= .type "list",data:= .seq #[]}:=Heap.get?_push_size _ rfl;refine⟨⟨_,hS,rfl⟩,F.args_list_init_2 _ _,vj W hT _ (W.frame 0 s _ s.toks kz (bC _) λb _ o e=>Heap.get?_push_of_some _ e) Cd hI hS (λs' eI c' hm Fd xI=>?_) hn⟩;exact⟨rfl,hQ s' eI c' hm Fd xI⟩
end
end PySem
namespace L2
open PySem PySem.Spec PyProof.Rows
section
variable {X:Cx} {Z:DC} {a b c e:Expr} {ta te:bg} {t:gn} {pos:Pos}
def Ge(K:PySem.W.Frag)(ta:TA):TE:=λσ H Q=>ta σ H λvs H1=>∃l xs,vs= [.ref l]/\bU K H1 l xs/\∀q,H1 q=none->Q (.ref q) (upd H1 q (.lst xs.reverse))
theorem Bb{ta:TA}{p p2 ot:Pos}(hc:X.calm=true)(Py:Gl X "list")(PJ:X.mg "list"=none)(Pz:Gl X "reversed")(Cn:X.mg "reversed"=none)(ha:PA X [a] ta)
  (hs:starEach [.Call (.Name "reversed" p2) [a] [] ot] X.env=(false,eval (.Call (.Name "reversed" p2) [a] [] ot) X.env)::starEach [] X.env:=by rfl) (eG:(backTo pos (starEach [] X.env)).any (·.1)=false:=by rfl)
  (iN:starEach [a] X.env=(false,eval a X.env)::starEach [] X.env:=by rfl) (HL:(backTo ot (starEach [] X.env)).any (·.1)=false:=by rfl):
  PE X (.Call (.Name "list" p) [.Call (.Name "reversed" p2) [a] [] ot] [] pos) (Ge X.K ta):=by
 intro pins s σ H Q I h;refine wpAny_Call_Name_kw (gz I Py PJ mB ?_);refine PyProof.Rows.callWith_type1 ?_ hs eG;rw[hs];show wpAny _ _ (spliced ((false,eval _ X.env)::backTo pos (starEach [] X.env))) _ _ s;refine Calls.spliced_cons ?_;refine wpAny_Call_Name_kw (gz I Pz Cn pO ?_);refine PyProof.Rows.callWith_type1 (thn (ha ot pins s σ H _ I h) λus s1 ⟨vs,H1,I1,r1,q1⟩=>?_) iN HL;obtain⟨l,xs,e,hl,q⟩:=q1;subst e;obtain⟨u,rfl,ru⟩:=r1.one;subst ru;obtain⟨its,rv,p,hz⟩:=I1.list hl;have hlen:=rv.length;refine call_reversed_list p.isList ?_;refine Calls.spliced_nil ?_;have cG:l<s1.heap.objs.size:=by obtain⟨o,ho,_⟩:=p.isList;exact Heap.lt_size ho
 have y8:l≠s1.heap.objs.size:=dD cG;have W:=(Walks.listRev (prog:=X.prog) (w:=X.w) (A:=X.A.in1.in1) (I.ok.hd hc) s1.heap.objs.size l y8 its.toArray).toS;have hit:(s1.heap.push (revObj l ((its.toArray.size:Int)-1))).IsRevIter s1.heap.objs.size l ((its.toArray.size:Int)-1-((0:Nat):Int)):=⟨_,Heap.get?_push_size _ rfl,rfl,by simp[revObj]⟩
 have PB:(s1.heap.push (revObj l ((its.toArray.size:Int)-1))).IsList l its.toArray:=p.isList.at λo e=>Heap.get?_push_of_some _ e;have wM:(s1.heap.push (revObj l ((its.toArray.size:Int)-1))).objs.size=s1.heap.objs.size+1:=by simp[Heap.push]
 refine uy W (λi s st=>st.2.1.typeIs) ⟨cM _,hit,PB⟩ (λb hb=>?_) (by simp) (λs' eI c' hm Fd xI=>?_) (by simpa [<-hlen] using hz)
 ·rw[show({s1 with heap:=s1.heap.push (revObj l ((its.toArray.size:Int)-1))}:Shared).heap.objs.size=s1.heap.objs.size+1 from wM]
  have hb:b=s1.heap.objs.size\/b=l:=by simpa using hb
  rcases hb with rfl|rfl
  ·exact Nat.lt_succ_self _
  ·exact Nat.lt_succ_of_lt cG
 ·rw[Moved.eq_with hm]
  have kk:∀b o,s1.heap.get? b=some o->s'.heap.get? b=some o:=λb o e=>by
   have hb:=Heap.lt_size e;refine hm.heap b o (λxJ=>?_) (Heap.get?_push_of_some _ (Heap.get?_push_of_some _ e));have xJ:b=(s1.heap.push (revObj l ((its.toArray.size:Int)-1))).objs.size\/b=s1.heap.objs.size:=by simpa using xJ
   rw[wM] at xJ
   rcases xJ with rfl|rfl
   ·exact absurd hb (Nat.not_lt.mpr (rb _))
   ·exact absurd hb (fz _)
  rw[show({s1 with heap:=s1.heap.push (revObj l ((its.toArray.size:Int)-1))}:Shared).heap.objs.size=s1.heap.objs.size+1 from wM] at Fd ⊢
  refine⟨.ref (s1.heap.objs.size+1),_,I1.laid kk (rb _) (o:= .lst xs.reverse) ⟨by rw[wk];exact hz,eI.toList,c',?_,by simpa using Fd⟩,rfl,q _ (I1.hok.fresh (rb _))⟩
  refine Vals.of_get (by simp[xI.1,hlen]) λk x w hx hw=>?_
  have hk:k<xs.length:=by
   have:=(dE.mp hx).1
   simpa using this
  rw[List.getElem?_reverse hk] at hx;obtain⟨u,hu,ru⟩:=rv.get hx
  have:its.toArray[its.toArray.size-1-k]? =some w:=xI.2 k w (by rw[<-kL];exact hw)
  have e2:its.toArray.size-1-k=xs.length-1-k:=by simp[hlen]
  rw[e2] at this
  have:u=w:=by
   have h1:its[xs.length-1-k]? =some w:=by simpa using this
   rw[hu] at h1;exact Option.some.inj h1
  rw[<-this];exact ru
def EW(t:gn):bg:=λρ P=>t ρ λds=>match ds with
 | [.lst l]=>P (.lst l.reverse)
 |_=>False
theorem sr{p p2 ot:Pos}(hc:X.calm=true)(Py:Gl X "list")(PJ:X.mg "list"=none)(Pz:Gl X "reversed")(Cn:X.mg "reversed"=none)(ha:DA Z X [a] t)
  (hs:starEach [.Call (.Name "reversed" p2) [a] [] ot] X.env=(false,eval (.Call (.Name "reversed" p2) [a] [] ot) X.env)::starEach [] X.env:=by rfl) (eG:(backTo pos (starEach [] X.env)).any (·.1)=false:=by rfl)
  (iN:starEach [a] X.env=(false,eval a X.env)::starEach [] X.env:=by rfl) (HL:(backTo ot (starEach [] X.env)).any (·.1)=false:=by rfl):
  DE Z X (.Call (.Name "list" p) [.Call (.Name "reversed" p2) [a] [] ot] [] pos) (EW t):=by
 refine(Bb hc Py PJ Pz Cn ha hs eG iN HL).imp ?_;rintro σ H Q ⟨G,ρ,P,s,en,h,q⟩;refine⟨G,ρ,_,s,en,h,λds hd vs G1 H1 x1 dv=>?_⟩;cases dv with
 |nil=>exact hd.elim
 |cons a as=>
  cases as with
  |cons _ _=>cases a<;>exact hd.elim
  |nil=>
   cases a<;>first|exact hd.elim|skip
   rename_i p xs ds ha e
   exact⟨_,xs,rfl,bU.of (x1.sub _ _ ha),λp hn=>q _ hd _ _ _ (x1.trans (.new x1.sub hn)) (.lst av (e.rev.mono (aW (x1.sub.free hn) _)))⟩
end
section
variable {Z:DC} {X:Cx} {md:List Nat} {rn:Nat} {a b e k:Expr} {pos:Pos} {ta tb te tk:bg} {t:gH}
def TM(ta tb:bg):gH:=λρ P=>ta ρ λd1=>∃l1,d1= .lst l1/\tb ρ λd2=>∃l2,d2= .lst l2/\l1.length+l2.length<=sizeLine/\P (l1++l2)
theorem nS(ha:DE Z X a ta)(hb:DE Z X b tb):DF Z X 1 (.BinOp a .Add b pos) (TM ta tb):=by
 refine(CZ zy ha hb).imp ?_;intro σ H Q aJ;rfl';obtain⟨G,ρ,P,s,e,h,q⟩:=aJ;ac_rfl;refine⟨G,ρ,_,s,e,h,?_⟩;rintro _ ⟨l1,rfl,h⟩ v1 G1 H1 x1 rD;refine⟨G1,ρ,_,x1.sub,e.mono x1.gg,h,?_⟩;rintro _ ⟨l2,rfl,hz,hp⟩ v2 G2 H2 x2 p9;obtain⟨p1,J2,rfl,h1,e1⟩:=rD.jl;obtain⟨p2,Mv,rfl,h2,e2⟩:=p9.jl;have O0:=e1.mono x2.gg;have x:=x1.trans x2;refine⟨_,_,_,_,rfl,rfl,x2.hh _ _ (x1.sub _ _ h1),x2.sub _ _ h2,by rw[e1.length,e2.length];exact hz,λp kv=>?_⟩
 obtain⟨o1,o2,o3⟩:=A9 x kv (O0.append e2);exact q _ hp _ _ _ _ (x.side kv) o1 o2 o3
variable {tg iter elt:Expr} {ifs:List Expr} {scope:Scope} {NC:List Str} {src:List (Option Nat)} {wi:g5} {g:eO} {tt:dS}
theorem Hb(hc:X.calm=true)(c:cj X scope)(eJ:cQ scope X.N src NC)(hi:DI Z X tg iter wi)
  (hg:∀ex s H,DG Z (cg X scope NC ex s H) tg g) (ht:∀ex s H,wz Z (cg X scope NC ex s H) ifs tt) (he:∀ex s H,DE Z (cg X scope NC ex s H) elt te)
  (hs:∀x,foldedSetIterable iter X.env x=pure x:=by intro _;rfl):DF Z X 1 (.ListComp elt [⟨tg,iter,ifs,0⟩] scope pos) (O6 wi g tt te src):=(IQ hc c eJ hi hg ht he hs).imp AX
variable {B:Bs} {ρ:DN} {σ:St} {H G:Hp} {fp:Nat->List Addr}
theorem SIx.evF{P:List D->Prop}{Q:VK}(S:SIx Z B md ρ σ H G fp)(h:t ρ P)
  (hq:∀ds,P ds->ds.all eS=true/\∀v G' H',SIx Z B md ρ σ H' G' fp->Ext G H G' H'->Dv Z G' v (.lst ds)->Q v H'):zj Z 1 t σ H Q:=by
 refine⟨H,ρ,P, .refl _,S.Aq,h,?_⟩;intro ds hd v f G' H' x o nd nw;obtain⟨Pt,k⟩:=hq ds hd;obtain⟨a,xs,fY,dP,rfl,e1,ha,Pr,ol⟩:=o.lst;cases e1;obtain⟨dv,rfl⟩:=ol.flat;have hb:H a=none:=(nw a (by rw[Pr];simp)).1
 have hg:G a=none:=S.ex.sub.free hb
 have x2:Ext G H (upd G a (.lst xs)) H':=by
  refine⟨aW hg _,λb o e=>?_,x.hh,λb h1 h2=>?_⟩
  ·by_cases z:b=a
   ·subst z
    rw[av] at e;rw[<-e];exact ha
   ·rw[aw z] at e
    exact x.hh _ _ (S.ex.sub _ _ e)
  ·rw[aw (λz=>h1 (by rw[z];exact hb))];exact h2
 exact k _ _ _ (S.grow x2) x2 (.lst av (dv.flat Pt))
def GX(i:Nat)(tk:bg)(t:gH):cN:=λE ρ=>t ρ λd=>d.all eS=true/\∃ds,ρ[i]? =some (some (.lst ds))/\tk ρ λkk=>∃k j,kk= .int k/\jj ds.length k=some j/\E.nx (ρ.set i (some (.lst (ds.set j (.lst d)))))
theorem jf(i:Nat){x:Str}{px ps:Pos}(hk:DE Z X k tk)(he:DF Z X 1 e t)(hm:md.getD i 0=1:=by rfl)(hi:X.N[i]? =some x:=by rfl)(hv:kT X.env.scope x:=by first|exact Or.inl rfl|exact Or.inr (Or.inl rfl) |exact Or.inr (Or.inr rfl))(hd:(x==("__debug__":Str))=false:=by decide)(dG:(x==("__classdict__":Str))=false:=by decide)
  (ha:∀v,assign (.Subscript (.Name x px) k ps) X.env v=(do
   let ov <-holding [v] (eval (.Name x px) X.env)
   let iv <-holding [v,ov] (eval k X.env)
   standAt ps
   holding [v,ov,iv] (setItem ov iv v)
   release [v,ov,iv] []):=by intro _;rfl)
  (hs:swapsWithSole [.Subscript (.Name x px) k ps] e pos.line X.env=pure false:=by rfl) (hw:swappedStores [.Subscript (.Name x px) k ps] e X.env=pure none:=by rfl)
  (h1:(assignEach [.Subscript (.Name x px) k ps] X.env).map (·.2)= [assign (.Subscript (.Name x px) k ps) X.env]:=by rfl):DSt Z X md rn (.Assign [.Subscript (.Name x px) k ps] e pos) (GX i tk t):=by
 refine(nY he (qA (pv i hi hv hd dG) hk set_list ha) hs hw h1).imp ?_;intro D σ H aJ;rfl';obtain⟨B,ρ,E,⟨G,fp,S⟩,h,M⟩:=aJ;ac_rfl;refine S.evF h λd hd=>⟨hd.1,λv G' H' S' x dv=>?_⟩;rfl';obtain⟨_,ds,h1,h⟩:=hd;obtain⟨l,xs,_,_,e2,e3,_⟩:=S'.one hm h1;ac_rfl;refine⟨_,e2,S'.ev true h ?_⟩;rintro _ ⟨k,j,rfl,hj,h3⟩;refine⟨rfl,λv1 G1 H1 S1 x1 rD=>?_⟩;rfl';cases rD.ofInt;obtain⟨l',gW,fY,e1,gI,uP,bw,put⟩:=S1.one hm h1;cases e1;ac_rfl;rw[e2] at gI;cases gI;exact⟨l,gW,k,j,rfl,rfl,uP,by rw[bw.length];exact hj,M.nx _ h3 _ _ ⟨G1,fp,put _ _ (bw.set (dv.mono x1.gg) j)⟩⟩
end
end L2
namespace uf
open PySem L2 Wb
def top(i:Nat):Stmt:=PySem.Challenge.pw_mapdye_k93_whole_three_dyes_counted.main.body.getD i (.Pass ⟨0,0,0,0⟩)
abbrev j7:Stmt:=top 12
abbrev mW:Stmt:=top 13
abbrev vP:Stmt:=top 14
abbrev mV:Stmt:=top 15
abbrev j6:Stmt:=top 16
abbrev jt:Stmt:=top 17
abbrev fR:Stmt:=top 19
abbrev fH:Stmt:=top 20
abbrev j9:Stmt:=top 21
abbrev mU:Stmt:=top 24
abbrev jq:Stmt:=top 25
abbrev j8:Stmt:=top 26
abbrev ju:Stmt:=top 27
abbrev j5:Stmt:=top 28
abbrev cX:Stmt:=top 29
abbrev jr:Stmt:=top 30
abbrev js:Stmt:=top 31
abbrev iz:Stmt:=top 33
abbrev gZ:Stmt:=top 36
abbrev cF:Stmt:=top 37
abbrev qH:Stmt:=top 38
abbrev pG:Stmt:=top 39
abbrev iy:Stmt:=top 41
abbrev j1:Stmt:=top 42
abbrev j2:Stmt:=top 43
abbrev jn:Stmt:=top 44
abbrev j0:Stmt:=top 45
abbrev jm:Stmt:=top 46
abbrev fM:Stmt:=top 47
abbrev j3:Stmt:=top 48
abbrev lD:Stmt:=top 49
abbrev fQ:Stmt:=top 50
abbrev jK:Stmt:=top 51
abbrev iR:Stmt:=top 52
abbrev jo:Stmt:=top 53
abbrev j4:Stmt:=top 54
abbrev De:Stmt:=top 55
abbrev e8:Stmt:=L2.iW (top 32) 0
abbrev mT:Stmt:=L2.iW (top 32) 1
abbrev iQ:Stmt:=L2.iW (top 32) 2
abbrev jJ:Stmt:=L2.iW (top 32) 3
abbrev sP:Stmt:=L2.iW (top 32) 4
abbrev jZ:Stmt:=L2.iW (top 32) 5
theorem nq:aC ["web","side","sides","p","q"] ["web","side"] (aq j7):=⟨rfl,rfl,rfl,by decide+kernel,rfl,by decide+kernel,by decide+kernel⟩
theorem yp:aC ["web","walked","told","side","sides","step"] ["web"] (aq mW):=⟨rfl,rfl,rfl,by decide+kernel,rfl,by decide+kernel,by decide+kernel⟩
theorem yo:aC ["web"] ["web"] (aq vP):=⟨rfl,rfl,rfl,by decide+kernel,rfl,by decide+kernel,by decide+kernel⟩
theorem qM:aC ["web","points","ties","rounds"] ["web"] (aq mV):=⟨rfl,rfl,rfl,by decide+kernel,rfl,by decide+kernel,by decide+kernel⟩
theorem ni:aC ["web"] ["web"] (aq j6):=⟨rfl,rfl,rfl,by decide+kernel,rfl,by decide+kernel,by decide+kernel⟩
theorem lW:aC ["web","rim","number","land"] ["web","rim"] (aq jt):=⟨rfl,rfl,rfl,by decide+kernel,rfl,by decide+kernel,by decide+kernel⟩
theorem nv:aC ["dyeing","land","bare"] ["dyeing","land"] (aq fR):=⟨rfl,rfl,rfl,by decide+kernel,rfl,by decide+kernel,by decide+kernel⟩
theorem jL:aC ["web","told","dyeing","dye","p","land"] ["web"] (aq fH):=⟨rfl,rfl,rfl,by decide+kernel,rfl,by decide+kernel,by decide+kernel⟩
theorem nz:aC ["web","p","row"] ["web"] (aq j9):=⟨rfl,rfl,rfl,by decide+kernel,rfl,by decide+kernel,by decide+kernel⟩
theorem qL:aC ["thing","many"] ["thing","many"] (aq mU):=⟨rfl,rfl,rfl,by decide+kernel,rfl,by decide+kernel,by decide+kernel⟩
theorem lT:aC ["rows","p","row","q"] ["rows"] (aq jq):=⟨rfl,rfl,rfl,by decide+kernel,rfl,by decide+kernel,by decide+kernel⟩
theorem nu:aC ["rows","p","row"] ["rows"] (aq j8):=⟨rfl,rfl,rfl,by decide+kernel,rfl,by decide+kernel,by decide+kernel⟩
theorem lX:aC ["rows","p","row","place","q"] ["rows"] (aq ju):=⟨rfl,rfl,rfl,by decide+kernel,rfl,by decide+kernel,by decide+kernel⟩
theorem nh:aC ["rows","p","row","q"] ["rows"] (aq j5):=⟨rfl,rfl,rfl,by decide+kernel,rfl,by decide+kernel,by decide+kernel⟩
theorem gE:aC ["rows","reached","waiting","p","q"] ["rows"] (aq cX):=⟨rfl,rfl,rfl,by decide+kernel,rfl,by decide+kernel,by decide+kernel⟩
theorem lU:aC ["rows","q","reached"] ["rows"] (aq jr):=⟨rfl,rfl,rfl,by decide+kernel,rfl,by decide+kernel,by decide+kernel⟩
theorem lV:aC ["rows","fault"] ["rows"] (aq js):=⟨rfl,rfl,rfl,by decide+kernel,rfl,by decide+kernel,by decide+kernel⟩
theorem kK:aC ["web","most"] ["web","most"] (aq iz):=⟨rfl,rfl,rfl,by decide+kernel,rfl,by decide+kernel,by decide+kernel⟩
theorem nj:aC ["parts","p","row","told","place","part"] ["parts","p","row"] (aq gZ):=⟨rfl,rfl,rfl,by decide+kernel,rfl,by decide+kernel,by decide+kernel⟩
theorem hJ:aC ["web","fallen","p","row","counts","parts"] ["web"] (aq cF):=⟨rfl,rfl,rfl,by decide+kernel,rfl,by decide+kernel,by decide+kernel⟩
theorem Bl:aC ["web","told","falling","less","many","place","factor"] ["web"] (aq qH):=⟨rfl,rfl,rfl,by decide+kernel,rfl,by decide+kernel,by decide+kernel⟩
theorem sQ:aC ["web","many","total","factor"] ["web","many"] (aq pG):=⟨rfl,rfl,rfl,by decide+kernel,rfl,by decide+kernel,by decide+kernel⟩
theorem kJ:aC ["_law_script","_law_k"] ["_law_script","_law_k"] (aq iy):=⟨rfl,rfl,rfl,by decide+kernel,rfl,by decide+kernel,by decide+kernel⟩
theorem mZ:aC ["_law_cell","_law_mixed"] ["_law_cell"] (aq j1):=⟨rfl,rfl,rfl,by decide+kernel,rfl,by decide+kernel,by decide+kernel⟩
theorem m7:aC ["_law_number","_law_least","_law_turns","_law_ring","_law_many","_law_point","_law_at","_law_far","_law_arc","_law_other"] ["_law_number","_law_least"] (aq j2):=⟨rfl,rfl,rfl,by decide+kernel,rfl,by decide+kernel,by decide+kernel⟩
theorem lQ:aC ["_law_turns","_law_ring","_law_point","_law_other"] ["_law_turns","_law_ring"] (aq jn):=⟨rfl,rfl,rfl,by decide+kernel,rfl,by decide+kernel,by decide+kernel⟩
theorem mY:aC ["_law_row","_law_thing","_law_things","_law_at"] ["_law_row","_law_thing","_law_things"] (aq j0):=⟨rfl,rfl,rfl,by decide+kernel,rfl,by decide+kernel,by decide+kernel⟩
theorem lP:aC ["_law_row","_law_thing"] ["_law_row","_law_thing"] (aq jm):=⟨rfl,rfl,rfl,by decide+kernel,rfl,by decide+kernel,by decide+kernel⟩
theorem g9:aC ["_law_turns","_law_a","_law_b","_law_c","_law_x"] ["_law_turns","_law_a","_law_b"] (aq fM):=⟨rfl,rfl,rfl,by decide+kernel,rfl,by decide+kernel,by decide+kernel⟩
theorem m9:aC ["_law_turns","_law_a","_law_b","_law_x","_law_y","_law_u"] ["_law_turns","_law_a","_law_b"] (aq j3):=⟨rfl,rfl,rfl,by decide+kernel,rfl,by decide+kernel,by decide+kernel⟩
theorem oG:aC ["_law_number","_law_most","_law_turns","_law_further","_law_a","_law_b"] ["_law_number","_law_most"] (aq lD):=⟨rfl,rfl,rfl,by decide+kernel,rfl,by decide+kernel,by decide+kernel⟩
theorem m8:aC ["_law_turns","_law_number","_law_names","_law_k","_law_found","_law_row","_law_at"] ["_law_turns","_law_number"] (aq fQ):=⟨rfl,rfl,rfl,by decide+kernel,rfl,by decide+kernel,by decide+kernel⟩
theorem qK:aC ["_law_turns"] ["_law_turns"] (aq jK):=⟨rfl,rfl,rfl,by decide+kernel,rfl,by decide+kernel,by decide+kernel⟩
theorem oF:aC ["_law_turns","_law_lists","_law_told","_law_point","_law_row"] ["_law_turns","_law_lists","_law_told"] (aq iR):=⟨rfl,rfl,rfl,by decide+kernel,rfl,by decide+kernel,by decide+kernel⟩
theorem lS:aC ["_law_script","_law_number","_law_turns","_law_ring"] ["_law_script"] (aq jo):=⟨rfl,rfl,rfl,by decide+kernel,rfl,by decide+kernel,by decide+kernel⟩
theorem ng:aC ["_law_turns","_law_point","_law_ring","_law_k"] ["_law_turns","_law_point","_law_ring"] (aq j4):=⟨rfl,rfl,rfl,by decide+kernel,rfl,by decide+kernel,by decide+kernel⟩
theorem ED:aC ["_law_script","_law_turns","_law_web_here","_law_found","_law_many"] ["_law_script"] (aq De):=⟨rfl,rfl,rfl,by decide+kernel,rfl,by decide+kernel,by decide+kernel⟩
theorem kI:aC ["self","turns","rows","fault"] ["self","turns"] (aq e8):=⟨rfl,rfl,rfl,by decide+kernel,rfl,by decide+kernel,by decide+kernel⟩
theorem qI:aC ["self"] ["self"] (aq mT):=⟨rfl,rfl,rfl,by decide+kernel,rfl,by decide+kernel,by decide+kernel⟩
theorem oE:aC ["self"] ["self"] (aq iQ):=⟨rfl,rfl,rfl,by decide+kernel,rfl,by decide+kernel,by decide+kernel⟩
theorem qJ:aC ["self"] ["self"] (aq jJ):=⟨rfl,rfl,rfl,by decide+kernel,rfl,by decide+kernel,by decide+kernel⟩
theorem mX:aC ["self","p","q","row"] ["self","p","q"] (aq jZ):=⟨rfl,rfl,rfl,by decide+kernel,rfl,by decide+kernel,by decide+kernel⟩
set_option genInjectivity false in
structure Txt (Z:DC) (mg:Str->Option Value) where
 B:QY mg
 x_set:mg "set"=none
 d_round_from:dF Z.K mg "round_from" j7 ["web","side"]
 d_lands:dF Z.K mg "lands" mW ["web"]
 d_count:dF Z.K mg "count" vP ["web"]
 d_is_plane:dF Z.K mg "is_plane" mV ["web"]
 d_need_plane:dF Z.K mg "need_plane" j6 ["web"]
 d_need_filled:dF Z.K mg "need_filled" jt ["web","rim"]
 d_third_dyed:dF Z.K mg "third_dyed" fR ["dyeing","land"]
 d_dyed_by_lands:dF Z.K mg "dyed_by_lands" fH ["web"]
 d_three_dyes:dF Z.K mg "three_dyes" j9 ["web"]
 d_is_among:dF Z.K mg "is_among" mU ["thing","many"]
 d_alien_fault:dF Z.K mg "alien_fault" jq ["rows"]
 d_self_fault:dF Z.K mg "self_fault" j8 ["rows"]
 d_twice_fault:dF Z.K mg "twice_fault" ju ["rows"]
 d_lone_fault:dF Z.K mg "lone_fault" j5 ["rows"]
 d_reached_from_first:dF Z.K mg "reached_from_first" cX ["rows"]
 d_apart_fault:dF Z.K mg "apart_fault" jr ["rows"]
 d_first_fault:dF Z.K mg "first_fault" js ["rows"]
 d_need_at_most:dF Z.K mg "need_at_most" iz ["web","most"]
 d_parts_with:dF Z.K mg "parts_with" gZ ["parts","p","row"]
 d_counted_by_parts:dF Z.K mg "counted_by_parts" cF ["web"]
 d_ways:dF Z.K mg "ways" qH ["web"]
 d_ways_by:dF Z.K mg "ways_by" pG ["web","many"]
 d__law_cell_at:dF Z.K mg "_law_cell_at" iy ["_law_script","_law_k"]
 d__law_drawn:dF Z.K mg "_law_drawn" j1 ["_law_cell"]
 d__law_grown:dF Z.K mg "_law_grown" j2 ["_law_number","_law_least"]
 d__law_closed:dF Z.K mg "_law_closed" jn ["_law_turns","_law_ring"]
 d__law_after:dF Z.K mg "_law_after" j0 ["_law_row","_law_thing","_law_things"]
 d__law_behind:dF Z.K mg "_law_behind" jm ["_law_row","_law_thing"]
 d__law_eight_faced:dF Z.K mg "_law_eight_faced" fM ["_law_turns","_law_a","_law_b"]
 d__law_split:dF Z.K mg "_law_split" j3 ["_law_turns","_law_a","_law_b"]
 d__law_even:dF Z.K mg "_law_even" lD ["_law_number","_law_most"]
 d__law_named:dF Z.K mg "_law_named" fQ ["_law_turns","_law_number"]
 d__law_web:dF Z.K mg "_law_web" jK ["_law_turns"]
 d__law_dyed:dF Z.K mg "_law_dyed" iR ["_law_turns","_law_lists","_law_told"]
 d__law_filled:dF Z.K mg "_law_filled" jo ["_law_script"]
 d__law_wheel:dF Z.K mg "_law_wheel" j4 ["_law_turns","_law_point","_law_ring"]
 d_law:dF Z.K mg "law" De ["_law_script"]
 W:DS Z
 mC:mg "Web"=some (.ref Z.C)
 i_f:Addr
 i_fd:FuncData
 i_F:ue Z.K "__init__" "Web.__init__" e8 i_f i_fd
 mkW:Mk Z.K Z.C i_f
 m___init__b:Binds Z.K i_fd ["self","turns"] []
 m_many:BR Z "many" "Web.many" mT ["self"]
 m_turns:BR Z "turns" "Web.turns" iQ ["self"]
 m_ties:BR Z "ties" "Web.ties" jJ ["self"]
 m_tied:BR Z "tied" "Web.tied" sP ["self","a","b"]
 m_behind:BR Z "behind" "Web.behind" jZ ["self","p","q"]
 t___name__:∃tk,mg "__name__"=some (.str "law_mapdye_k93_whole_three_dyes_counted" tk)
 c_MOST_POINTS:∃tk,mg "MOST_POINTS"=some (.int 14 tk)
 c_MOST_COUNTED:∃tk,mg "MOST_COUNTED"=some (.int 8 tk)
variable {P:Program} {w:World} {mg:Str->Option Value} {base:Heap} {Z:DC} (T:Txt Z mg)
def Jw:b9:=λds P=>∃(i n:Int),ds= [.int i, .int n]/\P (.bl (decide (0<=i/\i<n)))
theorem zw:FnOk P w Z.K mg base bQ 1 T.d_is_among.f T.d_is_among.fd ["thing","many"] (aM Z Jw):=by
 have nd:=qL.nd;refine aP T.d_is_among.F qL [0,0] (by decide) (λds R h=>by obtain⟨_,_,rfl,_⟩:=h;rfl) (λbh A outer s H E ds R hr h=>?_)
 have hu:=hr.units;refine⟨_,(ao (aL (pT (pU "int" (aa 0) rfl T.B.isinstance rfl T.B.int DX) (pT (Kv (pU "bool" (aa 0) rfl T.B.isinstance rfl T.B.bool z3)) (yT (E2 vw zr ai (aa 0) (aa 1))))))),?_⟩;obtain⟨i,n,rfl,q⟩:=h;refine⟨_,rfl,rfl,true,rfl,dr ⟨_,rfl,rfl,false,rfl,true,rfl,dr ⟨_,rfl,?_⟩⟩⟩;refine⟨_,rfl,cH (λh0=>⟨_,rfl,?_⟩) (λh0=>?_)⟩
 ·have h0:0<=i:=of_decide_eq_true h0
  show R (.bl (decide (i<n)));rw[show decide (i<n)=decide (0<=i/\i<n) by simp[h0]]
  exact q
 ·have h0:¬0<=i:=of_decide_eq_false h0
  rw[show decide (0<=i/\i<n)=false by simp[h0]] at q
  exact q
def ua:b9:=λds P=>∃(w:W),ds= [ay w]/\xb w/\1<=w.length/\w.length<=14/\P .bb
theorem sX{w:W}{j:Nat}{d:D}(h:(gw (w.map ar))[j]? =some d):j<w.length/\d= .tup [.int (j:Int),ar (row w j)]:=by
 obtain⟨x,hx,rfl⟩:=eQ h;obtain⟨r,hr,rfl⟩:=bN hx;have hj:j<w.length:=(dE.mp hr).1;refine⟨hj,?_⟩;rw[EB hr]
theorem tO:FnOk P w Z.K mg base bQ 2 T.d_alien_fault.f T.d_alien_fault.fd ["rows"] (aM Z ua):=by
 have nd:=lT.nd;refine aP T.d_alien_fault.F lT [0,0,0,0] (by decide) (λds R h=>by obtain⟨_,rfl,_⟩:=h;rfl) (λbh A outer s H E ds R hr h=>?_)
 have hu:=hr.units
 refine⟨_,(ah (bR rfl PassesOwn.never (cD rfl T.B.enumerate (ab (aa 0) ae)) (cU 2 rfl (aF (aB 1 nd) (aF (aB 2 nd) bK))) (ao (bR rfl PassesOwn.never (bF (aa 2)) (aB 3 nd) (ao (bM (jD (gY (aE T.d_is_among (zw T) hr (ab (aa 3) (ab (aD aZ rfl T.B.len aY (ab (aa 0) ae)) ae))))) (ao (aL (fE (ab iM (ab (aa 1) (ab (aa 3) ae)))))) aX)))))
   (ao (aL fg))),?_⟩
 obtain⟨w',rfl,g,h1,f6,q⟩:=h;refine⟨_,rfl,bx (λ_ ρ=>∃o1 o2 o3,ρ= [some (ay w'),o1,o2,o3]) ⟨_,_,_,rfl⟩ ?_ ?_⟩
 ·rintro j d _ hd ⟨o1,o2,o3,rfl⟩ A hA
  obtain⟨hj,rfl⟩:=sX hd;refine⟨rfl,rfl,?_⟩;refine⟨_,rfl,bx (λ_ ρ=>∃o3,ρ= [some (ay w'),some (.int (j:Int)),some (ar (row w' j)),o3]) ⟨_,rfl⟩ ?_ ?_⟩
  ·rintro k d' _ hk ⟨o4,rfl⟩ A' u0
   obtain⟨x,hx,rfl⟩:=bN hk;refine⟨_,rfl,_,rfl,_,_,rfl,⟨rfl,?_⟩⟩;have cG:x<w'.length:=g.rng _ _ (e9 hx);rw[show decide ((0:Int)<=(x:Int)/\(x:Int)<((w'.map ar).length:Int))=true by simp;omega]
   exact cv (u0 _ ⟨_,rfl⟩)
  ·rintro _ ⟨o4,rfl⟩
   exact hA _ ⟨_,_,_,rfl⟩
 ·rintro _ ⟨o1,o2,o3,rfl⟩
  exact q
theorem vE:FnOk P w Z.K mg base bQ 1 T.d_self_fault.f T.d_self_fault.fd ["rows"] (aM Z ua):=by
 have nd:=nu.nd;refine aP T.d_self_fault.F nu [0,0,0] (by decide) (λds R h=>by obtain⟨_,rfl,_⟩:=h;rfl) (λbh A outer s H E ds R hr h=>?_)
 have hu:=hr.units
 refine⟨_,(ah (bR rfl PassesOwn.never (cD rfl T.B.enumerate (ab (aa 0) ae)) (cU 2 rfl (aF (aB 1 nd) (aF (aB 2 nd) bK))) (ao (bM (aS vt (aa 1) (aa 2) (by with_unfolding_all rfl)) (ao (aL (fE (ab iM (ab (aa 1) (ab (aa 1) ae)))))) aX)))
   (ao (aL fg))),?_⟩
 obtain⟨w',rfl,g,h1,f6,q⟩:=h;refine⟨_,rfl,bx (λ_ ρ=>∃o1 o2,ρ= [some (ay w'),o1,o2]) ⟨_,_,rfl⟩ ?_ ?_⟩
 ·rintro j d _ hd ⟨o1,o2,rfl⟩ A hA
  obtain⟨hj,rfl⟩:=sX hd;refine⟨rfl,rfl,?_⟩;refine⟨_,rfl,_,rfl,rfl,bz _,_,rfl,?_⟩
  have e:inD (.int (j:Int)) ((row w' j).map af)=false:=by
   have:=mM (r:=row w' j) (p:=j)
   rw[decide_eq_false (g.irr j)] at this;exact this
  rw[if_neg cK,e];exact cv (hA _ ⟨_,_,rfl⟩)
 ·rintro _ ⟨o1,o2,rfl⟩
  exact q
theorem gN{α:Type}(l:List α)(k:Nat)(h:k<=l.length):cutD l none (some (k:Int))=l.take k:=by
 unfold cutD;have e1:HT.bX l.length 0 none=0:=rfl
 have e2:HT.bX l.length l.length (some (k:Int))=k:=by
  simp only[HT.bX]
  split<;>omega
 rw[e1,e2];simp
theorem tR:FnOk P w Z.K mg base bQ 1 T.d_twice_fault.f T.d_twice_fault.fd ["rows"] (aM Z ua):=by
 have nd:=lX.nd;refine aP T.d_twice_fault.F lX [0,0,0,0,0] (by decide) (λds R h=>by obtain⟨_,rfl,_⟩:=h;rfl) (λbh A outer s H E ds R hr h=>?_)
 have hu:=hr.units
 refine⟨_,(ah (bR rfl PassesOwn.never (cD rfl T.B.enumerate (ab (aa 0) ae)) (cU 2 rfl (aF (aB 1 nd) (aF (aB 2 nd) bK))) (ao (bR rfl PassesOwn.never (cD rfl T.B.enumerate (ab (aa 2) ae)) (cU 2 rfl (aF (aB 3 nd) (aF (aB 4 nd) bK))) (ao (bM (aS vt (aa 4) (cO (aa 2) dU (dW (aa 3))) (by with_unfolding_all rfl)) (ao (aL (fE (ab iM (ab (aa 1) (ab (aa 4) ae)))))) aX)))))
   (ao (aL fg))),?_⟩
 obtain⟨w',rfl,g,h1,f6,q⟩:=h;refine⟨_,rfl,bx (λ_ ρ=>∃o1 o2 o3 o4,ρ= [some (ay w'),o1,o2,o3,o4]) ⟨_,_,_,_,rfl⟩ ?_ ?_⟩
 ·rintro j d _ hd ⟨o1,o2,o3,o4,rfl⟩ A hA
  obtain⟨hj,rfl⟩:=sX hd;refine⟨rfl,rfl,?_⟩;refine⟨_,rfl,bx (λ_ ρ=>∃o3 o4,ρ= [some (ay w'),some (.int (j:Int)),some (ar (row w' j)),o3,o4]) ⟨_,_,rfl⟩ ?_ ?_⟩
  ·rintro k d' _ hk ⟨o5,o6,rfl⟩ A' u0
   obtain⟨y,hy,rfl⟩:=eQ hk;obtain⟨x,hx,rfl⟩:=bN hy;have gQ:k<(row w' j).length:=(dE.mp hx).1;refine⟨rfl,rfl,?_⟩;refine⟨_,rfl,_,rfl,_,rfl,?_⟩;have ec:cutD ((row w' j).map af) none (some (k:Int))=((row w' j).take k).map af:=by rw[gN _ _ (by simp;omega),tj]
   refine(?_:Ko false (af x) (.lst (cutD ((row w' j).map af) none (some (k:Int)))) _);rw[ec];refine⟨rfl,bz _,_,rfl,?_⟩
   have e:inD (af x) (((row w' j).take k).map af)=false:=by
    rw[mM,decide_eq_false];intro z;obtain⟨m,hm⟩:=sZ z
    have og:m<k:=by
     have:=(dE.mp hm).1
     rw[eD] at this;omega
    rw[qT og] at hm;exact absurd ((List.getElem?_inj (by omega) (g.nod j)).mp (hm.trans hx.symm)) (by omega)
   rw[if_neg cK,e];exact cv (u0 _ ⟨_,_,rfl⟩)
  ·rintro _ ⟨o5,o6,rfl⟩
   exact hA _ ⟨_,_,_,_,rfl⟩
 ·rintro _ ⟨o1,o2,o3,o4,rfl⟩
  exact q
theorem vA:FnOk P w Z.K mg base bQ 1 T.d_lone_fault.f T.d_lone_fault.fd ["rows"] (aM Z ua):=by
 have nd:=nh.nd;refine aP T.d_lone_fault.F nh [0,0,0,0] (by decide) (λds R h=>by obtain⟨_,rfl,_⟩:=h;rfl) (λbh A outer s H E ds R hr h=>?_)
 have hu:=hr.units
 refine⟨_,(ah (bR rfl PassesOwn.never (cD rfl T.B.enumerate (ab (aa 0) ae)) (cU 2 rfl (aF (aB 1 nd) (aF (aB 2 nd) bK))) (ao (bR rfl PassesOwn.never (bF (aa 2)) (aB 3 nd) (ao (bM (aS rR (aa 1) (aO (aa 0) (aa 3)) (by with_unfolding_all rfl)) (ao (aL (fE (ab iM (ab (aa 1) (ab (aa 3) ae)))))) aX)))))
   (ao (aL fg))),?_⟩
 obtain⟨w',rfl,g,h1,f6,q⟩:=h;refine⟨_,rfl,bx (λ_ ρ=>∃o1 o2 o3,ρ= [some (ay w'),o1,o2,o3]) ⟨_,_,_,rfl⟩ ?_ ?_⟩
 ·rintro j d _ hd ⟨o1,o2,o3,rfl⟩ A hA
  obtain⟨hj,rfl⟩:=sX hd;refine⟨rfl,rfl,?_⟩;refine⟨_,rfl,bx (λ_ ρ=>∃o3,ρ= [some (ay w'),some (.int (j:Int)),some (ar (row w' j)),o3]) ⟨_,rfl⟩ ?_ ?_⟩
  ·rintro k d' _ hk ⟨o4,rfl⟩ A' u0
   obtain⟨x,hx,rfl⟩:=bN hk;have UR:=e9 hx;have cG:x<w'.length:=g.rng _ _ UR;refine⟨_,rfl,_,rfl,_,rfl,_,fB (nG cG),rfl,bz _,_,rfl,?_⟩
   have e:inD (.int (j:Int)) ((row w' x).map af)=true:=by
    have:=mM (r:=row w' x) (p:=j)
    rw[decide_eq_true (g.sym _ _ UR)] at this;exact this
   rw[if_pos rfl,e];exact cv (u0 _ ⟨_,rfl⟩)
  ·rintro _ ⟨o4,rfl⟩
   exact hA _ ⟨_,_,_,rfl⟩
 ·rintro _ ⟨o1,o2,o3,rfl⟩
  exact q
def tx(bs:List Bool):List D:=bs.map D.bl
theorem GN{bs:List Bool}{i:Nat}{b:Bool}(h:bs[i]? =some b):(tx bs)[i]? =some (.bl b):=by unfold tx;rw[cA,h];rfl
theorem z6(bs:List Bool)(i:Nat)(b:Bool):(tx bs).set i (.bl b)=tx (bs.set i b):=by unfold tx;rw[wx]
theorem z5(bs:List Bool):(tx bs).length=bs.length:=aG _
theorem bL{n k:Nat}(h:k<n):jj n (k:Int)=some k:=by unfold jj;rw[if_pos (by omega),if_pos (by omega)];simp
def Dk:b9:=λds P=>∃(w:W),ds= [ay w]/\xb w/\1<=w.length/\w.length<=14/\∀bs m,RI w bs [] [] m->(∀x,bs[x]? =some true->Reach w 0 x)->P (.lst (tx bs))
def Met(w:W)(bs:List Bool):Prop:=∀x,bs[x]? =some true->Reach w 0 x
theorem lq:FnOk P w Z.K mg base bQ 1 T.d_reached_from_first.f T.d_reached_from_first.fd ["rows"] (aM Z Dk):=by
 have nd:=gE.nd;refine aP T.d_reached_from_first.F gE [0,1,1,0,0] (by decide) (λds R h=>by obtain⟨_,rfl,_⟩:=h;rfl) (λbh A outer s H E ds R hr h=>?_)
 have hu:=hr.units
 refine⟨_,(ah (kh 1 (NC:= ["row"]) (src:= [none]) rfl nd (mh (aq cX)) trivial (bF (aa 0)) (λ_ _ _=>(bE 0 (show(["row"]:List Str).Nodup from by decide+kernel))) (λ_ _ _=>cE) (λ_ _ _=>jS))
   (ah (rB false 1 ai jS)
   (ah (kX 2 nd (fh (ab ai ae)))
   (ah (nU PassesOwn.never (gY (aa 2)) (ah (KC 3 2 nd)
   (ao (bR rfl PassesOwn.never (bF (aO (aa 0) (aa 3))) (aB 4 nd) (ao (bM (jD (gY (aO (aa 1) (aa 4)))) (ah (rB false 1 (aa 4) jS)
   (ao (t4 false 2 (aa 4)))) aX))))))
   (ao (aL (aa 1))))))),?_⟩
 obtain⟨w',rfl,g,h1,f6,q⟩:=h;refine⟨_,rfl,iO (ρ:= [none]) ar (λ_=> .bl false) w' _ (λy hy Y h=>h) rfl (small (by omega)) λaA=>?_⟩
 have e0:w'.map (λ_=>D.bl false)=tx (List.replicate w'.length false):=by unfold tx;rw[List.map_replicate,List.map_const']
 rw[e0];refine⟨trivial,_,rfl,0,0,rfl,by rw[z5,wg];exact bL (k:=0) (by omega),?_⟩
 rw[z6];refine⟨by show 1<=sizeLine;decide,?_⟩
 refine lK (λm ρ=>∃(bs:List Bool)(ws:List Nat)(o3 o4:Option D),ρ= [some (ay w'),some (.lst (tx bs)),some (.lst (ws.map af)),o3,o4]/\RI w' bs ws [] m/\Met w' bs/\m<=14/\bs.count false+ws.length=m) w'.length ?_ ?_
 ·refine⟨_,[0],none,none,rfl,⟨by simp,?_,?_,λx hx=>?_,?_⟩,λx hx=>?_,f6,?_⟩
  ·rw[hZ,if_pos rfl,if_pos (by rw[wg];omega)]
  ·intro x hx
   have:x=0:=by simpa using hx
   rw[this,hZ,if_pos rfl,if_pos (by rw[wg];omega)]
  ·by_cases e:0=x
   ·exact .inl (by rw[<-e];simp)
   ·rw[hZ,if_neg e,nK] at hx
    split at hx<;>cases hx
  ·rw[List.count_set (by rw[wg];omega),List.count_replicate_self,List.getElem_replicate]
   simp;omega
  ·by_cases e:0=x
   ·rw[<-e];exact .refl _
   ·rw[hZ,if_neg e,nK] at hx
    split at hx<;>cases hx
  ·rw[List.count_set (by rw[wg];omega),List.count_replicate_self,List.getElem_replicate]
   simp;omega
 ·rintro m _ ⟨bs,ws,o3,o4,rfl,ri,mt,hc,Ui⟩
  refine⟨_,rfl,rfl,?_⟩
  rcases List.eq_nil_or_concat ws with rfl| ⟨QP,p,e⟩
  ·exact cv ⟨_,rfl,q bs m ri mt⟩
  ·rw[List.concat_eq_append] at e
   subst e;rw[show sU (.lst ((QP++ [p]).map af))=true by simp[sU]]
   refine dr ?_;rw[cx] at Ui;simp only[wj] at Ui;obtain⟨c',rfl⟩:∃c',m=c'+1:=⟨m-1,by omega⟩
   have ri2:=ri.pop;have hp:bs[p]? =some true:=ri.wt p (by simp)
   have hpw:p<w'.length:=by rw[<-ri.len];exact(dE.mp hp).1
   refine⟨QP.map af,af p,by rw[dO];rfl,?_⟩
   refine⟨_,rfl,_,rfl,_,fB (nG hpw),bx (λj ρ=>∃(oQ:List Bool)(xa:List Nat)(o4:Option D),ρ= [some (ay w'),some (.lst (tx oQ)),some (.lst (xa.map af)),some (af p),o4]/\RI w' oQ xa [p] c'/\Met w' oQ/\(∀k y,k<j->(row w' p)[k]? =some y->oQ[y]? =some true)/\oQ.count false+xa.length=c') ?_ ?_ ?_⟩
   ·exact⟨bs,QP,_,rfl,ri2,mt,(λk n hk=>by omega),by omega⟩
   ·rintro j x _ hx ⟨oQ,xa,o5,rfl,Jp,Ln,D7,N9⟩ A hA
    obtain⟨n,hn,rfl⟩:=bN hx;have hnw:=g.rng _ _ (e9 hn);have PK:n<oQ.length:=by rw[Jp.len];exact hnw
    have HB:oQ[n]? =some (oQ[n]):=bO PK;refine⟨_,rfl,_,rfl,_,fB (GN HB),rfl,?_⟩;generalize oQ[n]=bn at HB;cases bn with
    |true=>
     refine cv (hA _ ⟨oQ,xa,_,rfl,Jp,Ln,λk y hk hy=>?_,N9⟩)
     by_cases e:k=j
     ·rw[e,hn] at hy;cases hy;exact HB
     ·exact D7 k y (by omega) hy
    |false=>
     refine dr ?_;refine⟨trivial,_,rfl,_,rfl,_,n,rfl,by rw[z5];exact bL PK,?_⟩
     rw[z6];have L4:=Jp.push HB;have aab:=L4.cnt;refine⟨_,rfl,_,rfl,trivial,f7 (by rw[aG];omega),?_⟩
     have er:xa.map af++ [af n]=(xa++ [n]).map af:=by rw[dO];rfl
     rw[er];refine hA _ ⟨oQ.set n true,xa++ [n],_,rfl,L4,λy hy=>?_,λk y hk hy=>?_,?_⟩
     ·by_cases e:n=y
      ·rw[<-e];exact .step (mt p hp) (e9 hn)
      ·rw[hZ,if_neg e] at hy;exact Ln y hy
     ·rw[hZ]
      by_cases e:n=y
      ·rw[if_pos e,if_pos PK]
      ·rw[if_neg e]
       refine D7 k y ?_ hy;apply Classical.byContradiction;intro z
       have:k=j:=by omega
       rw[this,hn] at hy;cases hy;exact e rfl
     ·obtain⟨hl,he⟩:=dE.mp HB
      have:0<oQ.count false:=List.count_pos_iff.mpr (by rw[<-he];exact wq hl)
      rw[List.count_set hl,he,cx];simp;omega
   ·rintro _ ⟨oQ,xa,o5,rfl,Jp,Ln,D7,N9⟩
    have L4:=Jp.close λy hy=>by
     obtain⟨k,hk⟩:=sZ hy;exact D7 k y (by rw[aG];exact(dE.mp hk).1) hk
    exact⟨c',by omega,oQ,xa,_,_,rfl,L4,Ln,by omega,N9⟩
def Br:b9:=λds P=>∃(w:W),ds= [ay w]/\xb w/\1<=w.length/\w.length<=14/\(Good w->P .bb)/\(¬Good w->∀q,P (.tup [.str "apart", .int 0,af q]))
theorem tP:FnOk P w Z.K mg base bQ 2 T.d_apart_fault.f T.d_apart_fault.fd ["rows"] (aM Z Br):=by
 have nd:=lU.nd;refine aP T.d_apart_fault.F lU [0,0,0] (by decide) (λds R h=>by obtain⟨_,rfl,_⟩:=h;rfl) (λbh A outer s H E ds R hr h=>?_)
 have hu:=hr.units
 refine⟨_,(ah (bR rfl PassesOwn.never (cD rfl T.B.enumerate (ab (aE T.d_reached_from_first (lq T) hr (ab (aa 0) ae)) ae)) (cU 2 rfl (aF (aB 1 nd) (aF (aB 2 nd) bK))) (ao (bM (jD (gY (aa 2))) (ao (aL (fE (ab iM (ab ai (ab (aa 1) ae)))))) aX)))
   (ao (aL fg))),?_⟩
 obtain⟨w',rfl,g,h1,f6,q1,q2⟩:=h;refine⟨_,rfl,w',rfl,g,h1,f6,λbs m ri mt=>bx (λk ρ=>(∀x,x<k->bs[x]? =some true)/\∃o1 o2,ρ= [some (ay w'),o1,o2]) ⟨λx hx=>absurd hx (Nat.not_lt_zero x),_,_,rfl⟩ ?_ ?_⟩
 ·rintro j d _ hd ⟨up,o1,o2,rfl⟩ A hA
  obtain⟨y,hy,rfl⟩:=eQ hd;obtain⟨b,hb,rfl⟩:=bN hy;refine⟨rfl,rfl,?_⟩;cases b with
  |true=>
   refine⟨_,rfl,rfl,cv (hA _ ⟨λx hx=>?_,_,_,rfl⟩)⟩
   by_cases e:x=j
   ·rw[e];exact hb
   ·exact up x (by omega)
  |false=>
   refine⟨_,rfl,rfl,dr ⟨_,rfl,by show 3<=sizeLine;decide,q2 (λg'=>?_) j⟩⟩
   have:=ri.all g'
   rw[this,nK] at hb
   split at hb<;>cases hb
 ·rintro _ ⟨up,o1,o2,rfl⟩
  refine q1 (g.good λp hp=>mt p (up p ?_))
  have:=ri.len
  unfold tx gw;simp;omega
theorem lO:FnOk P w Z.K mg base bQ 3 T.d_first_fault.f T.d_first_fault.fd ["rows"] (aM Z Br):=by
 have nd:=lV.nd;refine aP T.d_first_fault.F lV [0,0] (by decide) (λds R h=>by obtain⟨_,rfl,_⟩:=h;rfl) (λbh A outer s H E ds R hr h=>?_)
 have hu:=hr.units
 refine⟨_,(ah (aH false 1 nd (aE T.d_alien_fault (tO T) hr (ab (aa 0) ae)))
   (ah (bM (aS vv (aa 1) fg (bf _)) (ao (aH false 1 nd (aE T.d_self_fault (vE T) hr (ab (aa 0) ae)))) aX)
   (ah (bM (aS vv (aa 1) fg (bf _)) (ao (aH false 1 nd (aE T.d_twice_fault (tR T) hr (ab (aa 0) ae)))) aX)
   (ah (bM (aS vv (aa 1) fg (bf _)) (ao (aH false 1 nd (aE T.d_lone_fault (vA T) hr (ab (aa 0) ae)))) aX)
   (ah (bM (aS vv (aa 1) fg (bf _)) (ao (aH false 1 nd (aE T.d_apart_fault (tP T) hr (ab (aa 0) ae)))) aX)
   (ao (aL (aa 1)))))))),?_⟩
 obtain⟨w',rfl,g,h1,f6,q1,q2⟩:=h;refine⟨_,rfl,w',rfl,g,h1,f6,trivial,?_⟩;refine⟨_,rfl,_,rfl,dr ⟨_,rfl,w',rfl,g,h1,f6,trivial,?_⟩⟩;refine⟨_,rfl,_,rfl,dr ⟨_,rfl,w',rfl,g,h1,f6,trivial,?_⟩⟩;refine⟨_,rfl,_,rfl,dr ⟨_,rfl,w',rfl,g,h1,f6,trivial,?_⟩⟩;refine⟨_,rfl,_,rfl,dr ⟨_,rfl,w',rfl,g,h1,f6,λg'=>⟨trivial,_,rfl,q1 g'⟩,λg' q=>⟨trivial,_,rfl,q2 g' q⟩⟩⟩
theorem rT{P:Program}{w:World}{mg:Str->Option Value}{base:Heap}{Z:DC}(T:Txt Z mg):FnOk P w Z.K mg base bQ 4 T.i_f T.i_fd ["self","turns"] (Bt Z):=by
 have Hr:=lO (P:=P) (w:=w) (base:=base) T;have nd:=kI.nd;refine T.i_F.ok kI (λvs H Q E h=>?_) (λbh A outer s H vs Q E hr h=>?_)
 ·obtain⟨p,dx,v,G,w',rfl,_⟩:=h;rfl
 obtain⟨p,dx,v,G,w',rfl,hp,sG,gp,dv,g,h1,f6,q⟩:=h;have hu:=hr.units
 refine⟨_,gU (t:=pb Z _ [0,0,0,0] 0 _)
   (bM (jD (E6 vw vw ai (aD aZ rfl T.B.len aY (ab (aa 1) ae)) (xi rfl T.c_MOST_POINTS))) (ao iU) aX)
  (gU (t:=pb Z _ [0,0,0,0] 0 _)
   (xo 2 (NC:= ["row"]) (src:= [none]) rfl nd (mh (aq e8)) trivial (bF (aa 1)) (λ_ _ _=>(bE 0 (show(["row"]:List Str).Nodup from by decide+kernel))) (λ_ _ _=>cE) (λ_ _ _=>(oR uz rfl T.B.list mB (ab (aa 0) ae))))
  (gU (t:=pb Z _ [0,0,0,0] 0 _)
   (aH false 3 nd (aE T.d_first_fault (lO T) hr (ab (aa 2) ae)))
  (gU (t:=pb Z _ [0,0,0,0] 0 _)
   (bM (aS FE (aa 3) fg (bf _)) (ao iU) aX)
  (qE (LW (pv 0) (pv 2) rfl))))),?_⟩
 have lw:(w'.map ar).length=w'.length:=aG _;refine⟨⟨G,H,G⟩,[some (.obj p),some (ay w'),none,none],{nx:=λρ=>ρ= [some (.obj p),some (ay w'),none,none],rt:=λ_=>False},⟨G,λ_=> [],?_⟩,?_,⟨?_,λ_ z=>z.elim,λ_ z=>z.elim,λ_ z=>z.elim,λ_ _ z=>z.elim⟩⟩
 ·refine⟨.refl sG, .refl _,rfl,λi d hi=>?_,λ_=>ic,(λ_ _ _ _ z=>by cases z),(λ_ _ z=>by cases z)⟩
  match i,hi with
  |0,hi=>cases hi;exact⟨_,rfl, .obj p,rfl⟩
  |1,hi=>cases hi;exact⟨_,rfl,dv,rfl⟩
  |2,hi=>cases hi
  |3,hi=>cases hi
  |i+4,hi=>cases hi
 ·have e1:D.bl (decide ((1:Int)<=((w'.map ar).length:Int)))= .bl true:=congrArg D.bl (decide_eq_true (by rw[lw];omega))
  have e2:D.bl (decide (((w'.map ar).length:Int)<=14))= .bl true:=congrArg D.bl (decide_eq_true (by rw[lw];omega))
  exact⟨_,rfl,true,e1,dr ⟨true,e2,cv rfl⟩⟩
 rintro _ rfl DP H1 S1;refine⟨⟨G,H,G⟩,_,{nx:=λρ=>ρ= [some (.obj p),some (ay w'),some (ay w'),none],rt:=λ_=>False},S1,?_,⟨?_,λ_ z=>z.elim,λ_ z=>z.elim,λ_ z=>z.elim,λ_ _ z=>z.elim⟩⟩
 ·exact⟨_,rfl,iO (ρ:= [none]) ar ar w' _ (λy hy Y h=>⟨_,rfl,h⟩) rfl (small (by omega)) λaA=>⟨trivial,rfl⟩⟩
 rintro _ rfl fI H2 S2;refine⟨⟨G,H,G⟩,_,{nx:=λρ=>ρ= [some (.obj p),some (ay w'),some (ay w'),some .bb],rt:=λ_=>False},S2,?_,⟨?_,λ_ z=>z.elim,λ_ z=>z.elim,λ_ z=>z.elim,λ_ _ z=>z.elim⟩⟩
 ·exact⟨_,rfl,w',rfl,g.near,h1,f6,λ_=>⟨trivial,rfl⟩,λz=>absurd g z⟩
 rintro _ rfl tX H3 S3;refine⟨⟨G,H,G⟩,_,{nx:=λρ=>ρ= [some (.obj p),some (ay w'),some (ay w'),some .bb],rt:=λ_=>False},S3,?_,⟨?_,λ_ z=>z.elim,λ_ z=>z.elim,λ_ z=>z.elim,λ_ _ z=>z.elim⟩⟩
 ·exact⟨_,rfl,_,rfl,cv rfl⟩
 rintro _ rfl fJ H4 ⟨G4,fp,S4⟩;obtain⟨v0,ji,o0⟩:=S4.at_ 0 _ rfl;obtain⟨v2,K0,o2⟩:=S4.at_ 2 _ rfl;obtain⟨d0,_⟩:=o0;obtain⟨d2,_⟩:=o2;cases d0;have Z4:=d2;cases d2 with
 | @lst R xs ds hR e=>
  have hp4:=S4.ex.hh _ _ hp;refine⟨_,K0,_,ji,p,Z.C,dx,[],rfl,hp4,T.W.cl,T.W.nR,by decide,?_⟩
  have g4:G4 p=none:=S4.ex.off p (by show H p≠none;rw[hp];exact λz=>nomatch z) gp
  refine q R G4 _ S4.ex.gg (λb o eb=>?_) (λb o eb nb=>?_) S4.ex.off av Z4
  ·rw[aw (aR eb g4)];exact S4.ex.sub _ _ eb
  ·rw[aw nb];exact S4.ex.hh _ _ eb
def Me:b9:=λds P=>∃(w:W),ds= [.dA w]/\P (.int (w.length:Int))
theorem eW:FnOk P w Z.K mg base bQ 1 T.m_many.f T.m_many.fd ["self"] (aM Z Me):=by
 have nd:=qI.nd;refine aP T.m_many.F qI [0] (by decide) (λds R h=>by obtain⟨_,rfl,_⟩:=h;rfl) (λbh A outer s H E ds R hr h=>?_)
 have hu:=hr.units;refine⟨_,(ao (aL (aD aZ rfl T.B.len aY (ab (pV T.W (aa 0)) ae)))),?_⟩;obtain⟨w',rfl,q⟩:=h;refine⟨_,rfl,w',rfl,?_⟩;refine(?_:R (.int ((w'.map ar).length:Int)));rw[aG];exact q
def JJ:b9:=λds P=>∃(w:W),ds= [.dA w]/\w.length<=14/\P (ay w)
theorem oq:FnOk P w Z.K mg base bQ 1 T.m_turns.f T.m_turns.fd ["self"] (aM Z JJ):=by
 have nd:=oE.nd;refine aP T.m_turns.F oE [0] (by decide) (λds R h=>by obtain⟨_,rfl,_⟩:=h;rfl) (λbh A outer s H E ds R hr h=>?_)
 have hu:=hr.units;refine⟨_,(ao (aL (oS (NC:= ["row"]) (src:= [none]) rfl (mh (aq iQ)) trivial (bF (pV T.W (aa 0))) (λ_ _ _=>(bE 0 (show(["row"]:List Str).Nodup from by decide+kernel))) (λ_ _ _=>cE) (λ_ _ _=>(oR uz rfl T.B.list mB (ab (aa 0) ae)))))),?_⟩
 obtain⟨w',rfl,f6,q⟩:=h;exact⟨_,rfl,w',rfl,iO (ρ:= [none]) ar ar w' _ (λy hy Y h=>⟨_,rfl,h⟩) rfl (small (by omega)) λaA=>q⟩
end uf
namespace L2
open PySem PySem.Spec PyProof.Rows
section
variable {Z:DC} {X:Cx} {md:List Nat} {rn:Nat} {e:Expr} {pos p2:Pos} {te:bg} {t:gH} {lo hi:Option Expr} {tl th:BP}
def OR(t:gH):cN:=λE ρ=>t ρ λds=>E.rt (.lst ds)
theorem An(he:DF Z X rn e t):DSt Z X md rn (.Return (some e) pos) (OR t):=by
 refine(qC he).imp λD σ H gX=>?_;rfl';obtain⟨B,ρ,E,⟨G,fp,S⟩,h,M⟩:=gX;ac_rfl
 let F:Addr->Prop:=λb=>∃i,b∈fp i
 have s:=S.ex.sub
 have x0:Ext B.G₀ B.H₀ (plus G H F) H:=⟨S.ex.gg.trans (fb s),i6 s,S.ex.hh,λb hb hg=>by
  rw[gT (λ⟨i,hi⟩=>hb (S.nw i b hi).1)];exact S.ex.off b hb hg⟩
 refine⟨plus G H F,ρ,_,i6 s,⟨S.len,λi d h=>?_⟩,h,λds hd v f G' H' x o nd nw=>M.rt _ hd v f G' H' (x0.trans x) o nd λb hb=>⟨S.ex.hh.free (nw b hb).1,(nw b hb).2⟩⟩;obtain⟨v,hv,o⟩:=S.at_ i d h;exact⟨v,hv,o.dv (fb s) λb hb u e=>by rw[kF ⟨i,hb⟩];exact e⟩
end
theorem bT.set{R:V->D->List Addr->Prop}:∀{ys:List V}{jy:List D}{dP:List Addr}(p:Nat){v:V}{d:D}{f:List Addr},bT R ys jy dP->p<ys.length->R v d f->dP.Nodup->f.Nodup->(∀b∈f,b∉dP)->
  ∃uV,bT R (ys.set p v) (jy.set p d) uV/\uV.Nodup/\∀b∈uV,b∈dP\/b∈f
 |_,_,_,_,_,_,_, .nil,h,_,_,_,_=>by simp at h
 |_,_,_,0,v,d,f, .cons (f:=f0) (fs:=fs) a as,_,r,nd,Il,off=>by
  obtain⟨CM,mN,Lp⟩:=gF.mp nd;refine⟨f++fs, .cons r as,gF.mpr ⟨Il,mN,λb hb c hc e=>off b hb (fN _ (e▸hc))⟩,λb hb=>?_⟩
  rcases fK.mp hb with hb|hb
  ·exact .inr hb
  ·exact .inl (fN _ hb)
 |_,_,_,p+1,v,d,f, .cons (f:=f0) (fs:=fs) a as,h,r,nd,Il,off=>by
  rfl';obtain⟨CM,mN,Lp⟩:=gF.mp nd;obtain⟨Pb,o,n',s'⟩:=bT.set p as (by simpa using h) r mN Il λb hb z=>off b hb (fN _ z)
  ac_rfl;refine⟨f0++Pb, .cons a o,gF.mpr ⟨CM,n',λb hb c hc e=>?_⟩,λb hb=>?_⟩
  ·rcases s' c hc with z|z
   ·exact Lp b hb c z e
   ·exact off c z (kM _ (e▸hb))
  ·rcases fK.mp hb with hb|hb
   ·exact .inl (kM _ hb)
   ·rcases s' b hb with z|z
    ·exact .inl (fN _ z)
    ·exact .inr z
section
variable {Z:DC} {X:Cx} {md:List Nat} {rn:Nat} {e k:Expr} {pos:Pos} {tk:bg} {t:gH}
variable {B:Bs} {ρ:DN} {σ:St} {H G:Hp} {fp:Nat->List Addr}
theorem SIx.Qv{i:Nat}{T:Addr}{c:HO}{d':D}{f:List Addr}(S:SIx Z B md ρ σ H G fp)(hi:σ[i]? =some (some (.ref T)))(hT:T∈fp i)(o:Own Z G (upd H T c) (md.getD i 0) (.ref T) d' f)(nd:f.Nodup)
  (nw:∀b∈f,B.H₀ b=none/\H b≠none/\G b=none) (ap:∀b∈f,∀j,j≠i->b∉fp j):SIx Z B md (ρ.set i (some d')) σ (upd H T c) G (λj=>if j=i then f else fp j) where
 ex:=by
  obtain⟨h1,h2,h3⟩:=S.nw i T hT;exact⟨S.ex.gg,λx u e=>by rw[aw (aR e h3)];exact S.ex.sub _ _ e,λx u e=>by rw[aw (aR e h1)];exact S.ex.hh _ _ e,S.ex.off⟩
 fl:=S.fl
 len:=by rw[dB];exact S.len
 at_:=λj w h=>by
  by_cases z:i=j
  ·subst z
   by_cases hl:i<ρ.length
   ·rw[iH hl] at h
    cases Option.some.inj h;exact⟨_,hi,by rw[if_pos rfl];exact o⟩
   ·rw[wd (gL hl),fi (gL hl)] at h;cases h
  ·rw[jv z] at h
   obtain⟨u,hu,ow⟩:=S.at_ j w h;refine⟨u,hu,?_⟩;rw[if_neg (Ne.symm z)];exact ow.keep (.refl _) λb hb=>aw λy=>S.ap i j T z hT (y▸hb)
 nd:=λj=>by split;exact nd;exact S.nd j
 ap:=λj k b ne hj hk=>by
  split at hj
  ·next z=>
   rw[if_neg (λw=>ne (z.trans w.symm))] at hk;exact ap b hj k (λw=>ne (z.trans w.symm)) hk
  ·next z=>
   split at hk
   ·exact ap b hk j z hj
   ·exact S.ap j k b ne hj hk
 nw:=λj b hb=>by
  have yq:∀b,H b≠none->upd H T c b≠none:=λb hb=>by
   by_cases z:b=T
   ·subst z;rw[av];exact λw=>nomatch w
   ·rw[aw z];exact hb
  split at hb
  ·obtain⟨h1,h2,h3⟩:=nw b hb;exact⟨h1,yq b h2,h3⟩
  ·obtain⟨h1,h2,h3⟩:=S.nw j b hb;exact⟨h1,yq b h2,h3⟩
def E1(i:Nat)(tk:bg)(t:gH):cN:=λE ρ=>t ρ λd=>d.all eS=true/\∃ds,ρ[i]? =some (some (.lst ds))/\tk ρ λkk=>∃k j,kk= .int k/\jj ds.length k=some j/\E.nx (ρ.set i (some (.lst (ds.set j (.lst d)))))
theorem g6(i:Nat){x:Str}{px ps:Pos}(hk:DE Z X k tk)(he:DF Z X 1 e t)(hm:md.getD i 0=2:=by rfl)(hi:X.N[i]? =some x:=by rfl)(hv:kT X.env.scope x:=by first|exact Or.inl rfl|exact Or.inr (Or.inl rfl) |exact Or.inr (Or.inr rfl))(hd:(x==("__debug__":Str))=false:=by decide)(dG:(x==("__classdict__":Str))=false:=by decide)
  (ha:∀v,assign (.Subscript (.Name x px) k ps) X.env v=(do
   let ov <-holding [v] (eval (.Name x px) X.env)
   let iv <-holding [v,ov] (eval k X.env)
   standAt ps
   holding [v,ov,iv] (setItem ov iv v)
   release [v,ov,iv] []):=by intro _;rfl)
  (hs:swapsWithSole [.Subscript (.Name x px) k ps] e pos.line X.env=pure false:=by rfl) (hw:swappedStores [.Subscript (.Name x px) k ps] e X.env=pure none:=by rfl)
  (h1:(assignEach [.Subscript (.Name x px) k ps] X.env).map (·.2)= [assign (.Subscript (.Name x px) k ps) X.env]:=by rfl):DSt Z X md rn (.Assign [.Subscript (.Name x px) k ps] e pos) (E1 i tk t):=by
 refine(nY he (qA (pv i hi hv hd dG) hk set_list ha) hs hw h1).imp ?_;intro D σ H aJ;rfl';obtain⟨B,ρ,E,⟨G,fp,S⟩,h,M⟩:=aJ;ac_rfl;refine⟨H,ρ,_, .refl _,S.Aq,h,?_⟩;rintro d ⟨Pt,ds,h1,h⟩ v f G' H' x o nd nw;rfl';have x':=Ext.all S.ex.sub x;have S':=S.grow x';obtain⟨a,xs,fY,dP,rfl,ed,Uc,Pr,ol⟩:=o.lst;cases ed;obtain⟨dv,rfl⟩:=ol.flat;have hb:H a=none:=(nw a (by rw[Pr];simp)).1
 have ga:G a=none:=S.ex.sub.free hb;have GC:∀j,a∉fp j:=λj z=>(S.nw j a z).2.1 hb;obtain⟨v0,ji,o0⟩:=S'.at_ i _ h1;rw[hm] at o0;obtain⟨T,ys,_,fpT,rfl,eT,hT,hfT,oT⟩:=o0.lst;ac_rfl;refine⟨_,ji,S'.ev true h ?_⟩;rintro _ ⟨k,j,rfl,hj,h3⟩;refine⟨rfl,λv1 G1 H1 S1 x1 rD=>?_⟩;cases rD.ofInt;rfl';obtain⟨v2,K0,VR⟩:=S1.at_ i _ h1;rw[hm] at VR;obtain⟨T2,QR,OY,Az,rfl,e2,hT2,wK,o2⟩:=VR.lst;cases e2;rw[ji] at K0;cases K0;have VL:=S1.nd i;rw[wK] at VL;obtain⟨nT,mN⟩:=eE.mp VL;ac_rfl;have aT:a≠T:=λz=>GC i (by rw[wK,z];simp)
 have a1:H1 a=some (.lst xs):=x1.hh _ _ Uc;have ga1:G1 a=none:=x1.off a (by rw[Uc];exact λz=>nomatch z) ga
 have jlt:j<QR.length:=by
  have:=o2.length
  unfold jj at hj
  split at hj
  ·split at hj
   ·cases hj;omega
   ·cases hj
  ·split at hj
   ·cases hj;omega
   ·cases hj
 obtain⟨uV,on,ndn,sub⟩:=bT.set (R:=Own Z G1 H1 1) j (v:= .ref a) (d:= .lst d) (f:= [a]) o2 jlt (.inl ⟨a,xs,d,[],rfl,rfl,a1,rfl,((dv.flat Pt).own)⟩) mN (by simp) (λb hb z=>by
  have:b=a:=by simpa using hb
  subst this;exact GC i (by rw[wK];exact bP _ z))
 have Tn:T∉uV:=λz=>by
  rcases sub T z with z|z
  ·exact nT z
  ·exact aT ((by simpa using z:T=a).symm)
 refine⟨T,QR,k,j,rfl,rfl,hT2,by rw[o2.length];exact hj,M.nx _ h3 _ _ ⟨G1,_,S1.Qv (f:=T::uV) ji (by rw[wK];simp) ?_ (eE.mpr ⟨Tn,ndn⟩) (λb hb=>?_) (λb hb m og=>?_)⟩⟩
 ·rw[hm]
  exact .inl ⟨T,QR.set j (.ref a),_,uV,rfl,rfl,av,rfl,on.imp λv d f hf r=>r.keep (.refl _) λb hb=>aw λz=>Tn (by rw[<-z];exact hf b hb)⟩
 ·rcases cm.mp hb with rfl|hb
  ·exact S1.nw i _ (by rw[wK];simp)
  ·rcases sub b hb with z|z
   ·exact S1.nw i b (by rw[wK];exact bP _ z)
   ·have:b=a:=by simpa using z
    subst this;exact⟨S.ex.hh.free (by assumption),(by rw[a1];exact λz=>nomatch z),ga1⟩
 ·rcases cm.mp hb with rfl|hb
  ·exact λz=>S1.ap i m _ (Ne.symm og) (by rw[wK];simp) z
  ·rcases sub b hb with z|z
   ·exact λw=>S1.ap i m b (Ne.symm og) (by rw[wK];exact bP _ z) w
   ·have:b=a:=by simpa using z
    subst this;exact GC m
end
section
variable {Z:DC} {X:Cx} {md:List Nat} {rn:Nat} {elt t0 i0 t1 i1:Expr} {f0 f1:List Expr} {scope:Scope} {pos:Pos} {wi eC:g5} {g g1:eO} {tt dz:dS} {te:bg} {src:List (Option Nat)} {NC:List Str}
end
section
variable {Z:DC} {X:Cx}
theorem qB(ns:List Int):∀n,n<=ns.length->preSum (λi=>ns.getD i 0) n=(ns.take n).sum
 |0,_=>by simp[preSum]
 |n+1,h=>by
  have:=qB ns n (by omega)
  rw[preSum,this,List.take_succ_eq_append_getElem (by omega),List.sum_append,aV,bO (by omega)]
  simp
theorem BW(hc:X.calm=true):eM X (.builtin "sum") (λxs H Q=>∃(p:Addr)(ns:List Int),xs= [.ref p]/\H p=some (.lst (ns.map V.int))/\Q (.int ns.sum) H):=by
 intro pins s σ H xs us Q I rv h;rfl';obtain⟨p,ns,rfl,hp,q⟩:=h;obtain⟨u,rfl,ru⟩:=rv.one;subst ru;obtain⟨its,r,pl,hz⟩:=I.list (bU.of hp);have hl:=r.length;rw[aG] at hl;ac_rfl;refine call_sum_walkG (wpAny_pyIter_list pl.isList ?_)
 have cG:p<s.heap.objs.size:=by
  obtain⟨o,ho,_⟩:=pl.isList;exact Heap.lt_size ho
 have y8:p≠s.heap.objs.size:=dD cG;refine⟨_,_,_,its.toArray.size,_,_,λi=>ns.getD i 0,rfl,Walks.list (show X.A.in1.handled=none from I.ok.hd hc) s.heap.objs.size p y8 its.toArray,⟨⟨_,Heap.get?_push_size _ rfl,rfl,rfl⟩,pl.isList.push _⟩,?_,?_,λh' tk t' kk=>?_⟩
 ·intro b hb
  show b<(s.heap.push _).objs.size;rw[size_push'];simp only[cm,ia,or_false] at hb
  rcases hb with rfl|rfl
  ·exact Nat.lt_succ_self _
  ·exact Nat.lt_succ_of_lt cG
 ·intro i v hv
  have zd:its[i]? =some v:=by simpa using hv
  have hi:i<its.length:=(dE.mp zd).1;obtain⟨w,hw,vO⟩:=r.get (i:=i) (x:= .int (ns.getD i 0)) (by rw[cA,aV,bO (by omega)];rfl)
  rw[hw] at zd;cases Option.some.inj zd;exact vO
 ·have kept:∀b o,s.heap.get? b=some o->h'.get? b=some o:=λb o e=>kk b o (by simp;exact dD (Heap.lt_size e)) (Heap.get?_push_of_some _ e)
  have e:preSum (λi=>ns.getD i 0) its.toArray.size=ns.sum:=by
   rw[cL,<-hl,qB ns _ (bC _),EK (bC _)]
  rw[e];exact⟨.int _,H,I.kept kept,⟨_,rfl⟩,q⟩
def RN:b9:=λds P=>∃ns:List Int,ds= [.lst (ns.map D.int)]/\P (.int ns.sum)
theorem Kj(hc:X.calm=true):eM X (.builtin "sum") (lb Z RN):=by
 refine(BW hc).imp ?_;rintro xs H Q ⟨G,ds,P,s,dv,⟨ns,rfl,hp⟩,q⟩;cases dv with
 |cons a as=>
  cases as;cases a with
  |lst h e=>exact⟨_,ns,rfl,uL e▸s _ _ h,q _ hp _ G H (.refl s) (.int _)⟩
theorem Ki:bootBuiltins "sum"=some (.builtin "sum"):=by decide+kernel
end
theorem fk.ok{P:Program}{w:World}{H:Hp}{h:Heap}{a:Addr}{b:Bool}{es:List (Int×Addr)}(x:fk b a es h):cP P w H h a (.ext (fk b a es)):=by
 refine⟨x,let ⟨o,_,_,_,ho,_⟩:=x;⟨o,ho⟩,λh1 h2 p k=>?_⟩;obtain⟨o,eA,ep,t,ho,r⟩:=p;exact⟨o,eA,ep,t,k o ho,r⟩
theorem ja.mem{H:Hp}:∀{es:List (Int×Addr)}{ps:List (Int×Int)},ja H es ps->∀e∈es,∃p∈ps,e.1=gj p/\H e.2=some (.tup [.int p.1, .int p.2])
 |_,_, .nil,e,he=>nomatch he
 |_,_, .cons (p:=p) h t,e,he=>by
  rcases cm.mp he with rfl|he
  ·exact⟨p,b6 ..,rfl,h⟩
  ·obtain⟨q,h1,h2⟩:=t.mem e he
   exact⟨q,bP _ h1,h2⟩
theorem ja.NI{H:Hp}:∀{es:List (Int×Addr)}{ps:List (Int×Int)},ja H es ps->∀p∈ps,∃a,(gj p,a)∈es/\H a=some (.tup [.int p.1, .int p.2])
 |_,_, .nil,p,hp=>nomatch hp
 |_,_, .cons (a:=a) h t,p,hp=>by
  rcases cm.mp hp with rfl|hp
  ·exact⟨a,b6 ..,h⟩
  ·obtain⟨a',h1,h2⟩:=t.NI p hp
   exact⟨a',bP _ h1,h2⟩
theorem ja.len{H:Hp}:∀{es:List (Int×Addr)}{ps:List (Int×Int)},ja H es ps->es.length=ps.length
 |_,_, .nil=>rfl
 |_,_, .cons _ t=>congrArg (·+1) t.len
theorem ja.snoc{H:Hp}{a:Addr}{p:Int×Int}(h:H a=some (.tup [.int p.1, .int p.2])):∀{es:List (Int×Addr)}{ps:List (Int×Int)},ja H es ps->ja H (es++ [(gj p,a)]) (ps++ [p])
 |_,_, .nil=> .cons h .nil
 |_,_, .cons h' t=> .cons h' (ja.snoc h t)
section
variable {X:Cx} {pins:List (Addr×Obj)} {σ:St} {H:Hp} {s:Shared}
theorem Inv.Bg{a:Addr}{p:Int×Int}(I:Inv X pins σ H s)(h:H a=some (.tup [.int p.1, .int p.2])):IsTupleKey (intKind X.prog X.w) s.heap [p.1,p.2] a:=by
 rfl';obtain⟨its,r,⟨o,ho,hc,n,hd⟩,_⟩:=I.tuple (gq.of h);obtain⟨u1,u2,rfl,⟨t,rfl⟩,⟨u,rfl⟩⟩:=Vals.two r;ac_rfl;exact⟨o,_,n,ho,hc,hd, .cons (by simp[intKind,Value.isInt]) (.cons (by simp[intKind,Value.isInt]) .nil)⟩
theorem Inv.nA{a:Addr}{b:Bool}{es:List (Int×Addr)}(I:Inv X pins σ H s)(h:H a=some (.ext (fk b a es))):fk b a es s.heap:=(I.hok a _ h).1
theorem qv(P:Program)(w:World)(p:Int×Int):tupleKeyHash (intKind P w) [p.1,p.2]=gj p:=rfl
theorem Inv.WW{es:List (Int×Addr)}{ps:List (Int×Int)}{eA:Array (Int×Value)}(I:Inv X pins σ H s)(pe:ja H es ps)(pm:eA.toList.Perm (es.map λe=>(e.1,Value.ref e.2))):Gs X.prog X.w s.heap eA:=λi e he=>by
 rfl';have hm:e∈eA.toList:=by rw[<-kL] at he;exact e9 he
 obtain⟨e',Ck,rfl⟩:=b8.mp (pm.mem_iff.mp hm);obtain⟨p,_,h1,h2⟩:=pe.mem e' Ck;ac_rfl;exact⟨[p.1,p.2],e'.2,by rw[qv,h1],I.Bg h2⟩
theorem Inv.mL{es:List (Int×Addr)}{ps:List (Int×Int)}{eA:Array (Int×Value)}(I:Inv X pins σ H s)(pe:ja H es ps)(pm:eA.toList.Perm (es.map λe=>(e.1,Value.ref e.2)))(p:Int×Int):
  (∃(i:Nat)(c:Addr),eA[i]? =some (tupleKeyHash (intKind X.prog X.w) [p.1,p.2], .ref c)/\IsTupleKey (intKind X.prog X.w) s.heap [p.1,p.2] c)↔p∈ps:=by
 constructor
 ·rintro⟨i,c,h1,h2⟩
  have hm:(tupleKeyHash (intKind X.prog X.w) [p.1,p.2],Value.ref c)∈eA.toList:=by rw[<-kL] at h1;exact e9 h1
  obtain⟨e',Ck,e1⟩:=b8.mp (pm.mem_iff.mp hm);obtain⟨q,hq,h3,h4⟩:=pe.mem e' Ck
  have:e'.2=c:=by have:=(Prod.mk.inj e1).2;injection this
  rw[this] at h4
  have:=(I.Bg h4).inj h2
  simp at this
  have:q=p:=Prod.ext this.1 this.2
  rw[<-this];exact hq
 ·intro hp
  obtain⟨a,h1,h2⟩:=pe.NI p hp;have hm:(gj p,Value.ref a)∈eA.toList:=pm.mem_iff.mpr (b8.mpr ⟨_,h1,rfl⟩);obtain⟨i,hi⟩:=List.mem_iff_getElem?.mp hm;rw[kL] at hi;exact⟨i,a,by rw[qv];exact hi,I.Bg h2⟩
theorem FK{p pos:Pos}(hg:Gl X "set")(hm:X.mg "set"=none):PE X (.Call (.Name "set" p) [] [] pos) (λσ H Q=>∀q,H q=none->Q (.ref q) (upd H q (.ext (fk (fV X.w) q [])))):=by
 intro pins s σ H Q I h;refine wpAny_Call_Name_kw (gz I hg hm (u:= .type "set") (by decide+kernel) ?_ (by decide) (by decide))
 refine PyProof.Rows.callWith_type rfl (PyProof.Rows.evalArgs_nil3 (yO ?_));have hn:=I.hok.fresh (bC _);exact⟨.ref s.heap.objs.size,_,I.laid (t':=s.toks) (λb o e=>Heap.get?_push_of_some _ e) (bC _) (o:= .ext (fk (fV X.w) s.heap.objs.size [])) (fk.ok ⟨_,_,_,_,Heap.get?_push_size _ rfl,lM.new X.w, .refl _⟩),rfl,h _ hn⟩
theorem U1{a c:Addr}{es:List (Int×Addr)}{ps:List (Int×Int)}{p:Int×Int}{Q:Bool->Shared->Prop}{E:Value->Shared->Prop}(hu:X.A.units+64<cLine)(I:Inv X pins σ H s)(hc:H c=some (.tup [.int p.1, .int p.2]))(ha:H a=some (.ext (fk (fV X.w) a es)))(pe:ja H es ps)
  (h:∀tk,Q (decide (p∈ps)) {s with toks:=tk}):wpAny (model X.prog X.w) X.A (contains (.ref a) (.ref c)) Q E s:=by
 rfl';obtain⟨o,eA,ep,t,ho,S,pm⟩:=I.nA ha;ac_rfl;refine qS hu ho S (I.WW pe pm) (I.Bg hc) λtk=>?_
 have:PySem.mL X.prog X.w s.heap eA [p.1,p.2]=decide (p∈ps):=by
  classical
  unfold PySem.mL;exact decide_eq_decide.mpr (I.mL pe pm p)
 rw[this];exact h tk
theorem CV(hu:X.A.units+64<cLine):OpR X (compareOp .NotIn) (λx y H Q=>∃c a es ps p,x= .ref c/\y= .ref a/\H c=some (.tup [.int p.1, .int p.2])/\H a=some (.ext (fk (fV X.w) a es))/\ja H es ps/\Q (.bl (!decide (p∈ps))) H):=by
 intro pins s σ H x y v u Q I rx ry h;rfl';obtain⟨c,a,es,ps,p,rfl,rfl,hc,ha,pe,q⟩:=h;ac_rfl;cases rx;cases ry;exact wpAny_bind (U1 hu I hc ha pe λtk=>wpAny_pure ⟨.bl _,H,I.tok _,rfl,q⟩)
theorem Ij(hu:X.A.units+64<cLine):Kc X "set.add" (λx vs H Q=>∃l c es ps p,x= .ref l/\vs= [.ref c]/\H c=some (.tup [.int p.1, .int p.2])/\H l=some (.ext (fk (fV X.w) l es))/\ja H es ps/\ps.length<=300/\
  (p∈ps->Q .bb H)/\(p∉ps->Q .bb (upd H l (.ext (fk (fV X.w) l (es++ [(gj p,c)])))))):=by
 intro pins s σ H x vs v us Q I rx rv h;rfl';obtain⟨l,c,es,ps,p,rfl,rfl,hc,hl,pe,hz,q1,q2⟩:=h;subst rx;obtain⟨u,rfl,ru⟩:=rv.one;subst ru;obtain⟨o,eA,ep,t,ho,S,pm⟩:=I.nA hl;have hT:s.TypeIs (.ref l) "set":=⟨o,ho,S.ex.1⟩;ac_rfl;refine wpAny_call_entry F.slot_set_add hT F.entry_set_add ?_ (F.args_set_add_2 _ _);unfold Builtin.«set.add» Builtin.Frozenset.oneOther;simp only[List.isEmpty_nil,bind_assoc];unfold Builtin.Frozenset.addrOf setAdd;refine wpAny_bind (wpAny_pure ?_)
 try dsimp only
 refine wpAny_bind (wpAny_pure ?_)
 try dsimp only
 refine wpAny_bind ?_;refine wpAny_holding ?_;have hk:=I.Bg hc;refine wpAny_bind (wpAny_pyHash_tuple ?_ hk ?_)
 ·show X.A.units+1<cLine;omega
 have sz:eA.size=ps.length:=by
  have:=pm.length_eq
  rw[nM,aG,pe.len] at this;exact this
 refine zM (s:={s with toks:=s.toks+([p.1,p.2].length+1)}) (by show X.A.units+1<cLine;omega) ho S (I.WW pe pm) hk (by omega) (λhy=>?_) λhn h' o' mJ B7 t' sb g7 S' pm'=>?_
 ·show wpAny _ _ (ret Value.none) _ _ _
  exact wpAny_pure ⟨_,rfl, .bb,H,I.tok _,rfl,q1 ((I.mL pe pm p).mp hy)⟩
 ·show wpAny _ _ (ret Value.none) _ _ _
  have xJ:p∉ps:=λz=>by
   obtain⟨i,c',h1,h2⟩:=(I.mL pe pm p).mpr z;exact hn i _ h1 c' rfl h2
  have I':=I.write (h':=h') (t':=s.toks+([p.1,p.2].length+1)) (x:=l) (e:=l) (o:= .ext (fk (fV X.w) l (es++ [(gj p,c)]))) (by rw[hl];trivial) (.inl rfl) (λb u hb e=>sb.extBut b u hb e) ⟨o',g7⟩ (fk.ok ⟨o',mJ,B7,t',g7,S',by
   rw[dO];exact pm'.trans (pm.append_right _)⟩)
  exact wpAny_pure ⟨_,rfl, .bb,_,I',rfl,q2 xJ⟩
def Yg(b:Bool)(r:V->List V->Hp->VK->Prop)(to:TE)(t:TA):TE:=λσ H Q=>to σ H λx H1=>(∃p es,x= .ref p/\H1 p=some (.ext (fk b p es)))/\t σ H1 λxs H2=>r x xs H2 Q
variable {o e:Expr} {es:List Expr} {to:TE} {t:TA} {name:Str} {apos aU:Pos} {id:String} {r:V->List V->Hp->VK->Prop}
theorem LI{b:Bool}(pa:PlainAttrs "set")(slot:Slot "set" name id)(HN:typeOf (.builtin id)=pure (.type "method_descriptor"))(hm:Kc X id r)(ho:PE X o to)(ha:PA X (e::es) t)
  (fq:attributeBase o name X.env (eval o X.env)=eval o X.env:=by rfl)
  (ku:((backTo aU (starEach (e::es) X.env)).all (λx=>!x.1)&&(backToKw aU (keywordEach [] X.env)).all (λx=>x.1.isSome)
   &&decide ((e::es).length+([]:List Keyword).length+(if ([]:List Keyword).isEmpty then 0 else 1)<30))=true:=by rfl)
  (eU:(apos.endLine==aU.line)=true:=by rfl) (hs:starEach (e::es) X.env=(false,eval e X.env)::starEach es X.env:=by rfl) (fF:(backTo aU (starEach es X.env)).any (·.1)=false:=by rfl):
  PE X (.Call (.Attribute o name apos) (e::es) [] aU) (Yg b r to t):=by
 intro pins s σ H Q I h;refine wpAny_Call_method_late fq ku eU rfl (thn (ho pins s σ H _ I h) λv s1 bc=>?_);rfl';obtain⟨x,H1,I1,r1,ty,q1⟩:=bc;ac_rfl;rfl';obtain⟨p,mJ,rfl,hp⟩:=ty;subst r1;obtain⟨oo,_,_,_,UJ,S,_⟩:=I1.nA hp;ac_rfl;refine⟨"set",id,pa,slot,HN,⟨oo,UJ,S.ex.1⟩,λa ea=>?_,?_⟩
 ·cases ea;exact⟨oo,UJ,S.ex.2.1⟩
 have hA:=ha aU pins s1 σ H1 _ I1 q1;rw[hs] at hA ⊢;refine Calls.callWith_builtin (by show(false|| (backTo aU (starEach es X.env)).any (·.1))=false;rw[fF]<;>rfl) (Calls.evalArgs_plain ?_)
 exact thn hA λus s2 ⟨vs,H2,I2,r2,q2⟩=>hm pins s2 σ H2 (.ref p) vs (.ref p) us Q I2 rfl r2 q2
end
def AI(ps:List (Int×Int))(p:Int×Int):List (Int×Int):=if p∈ps then ps else ps++ [p]
section
variable {Z:DC} {X:Cx} {B:Bs} {md:List Nat} {rn:Nat} {ρ:DN} {σ:St} {H G:Hp} {fp:Nat->List Addr} {a e k o:Expr} {ta te tk tp:bg} {pos apos aU p2:Pos}
def Ql(p:Int×Int):D:= .tup [.int p.1, .int p.2]
theorem Dv.NL{v:V}{p:Int×Int}(h:Dv Z G v (Ql p)):∃c,v= .ref c/\G c=some (.tup [.int p.1, .int p.2]):=by
 rfl';obtain⟨c,xs,rfl,h1,h2⟩:=Dv.rS h;obtain⟨v1,v2,rfl,d1,d2⟩:=h2.zu;rw[d1.ofInt,d2.ofInt] at h1;ac_rfl;exact⟨c,rfl,h1⟩
def SE(w:World)(neg:Bool):gm:=λa b P=>∃p ps,a=Ql p/\b= .x (.qD (fV w) ps)/\P (.bl (if neg=true then !decide (p∈ps) else decide (p∈ps)))
theorem CQ(hu:X.A.units+64<cLine):OpR X (compareOp .NotIn) (bV Z (SE X.w true)):=by
 refine(CV hu).imp ?_;rintro x y H Q ⟨G,a,b,P,s,da,db,⟨p,ps,rfl,rfl,h⟩,q⟩;obtain⟨c,rfl,hc⟩:=da.NL;cases db with
 |x hp ok=>
  rfl';obtain⟨_,es,rfl,pe⟩:=ok;ac_rfl;exact⟨c,_,es,ps,p,rfl,rfl,s _ _ hc,s _ _ hp,pe.mono s,q _ h _ G H (.refl s) (.bl _)⟩
def Ks(w:World)(i:Nat):cN:=λE ρ=>E.nx (ρ.set i (some (.x (.qD (fV w) []))))
theorem E4(i:Nat){x:Str}{pos' p:Pos}(hN:X.N.Nodup)(hg:Gl X "set")(y6:X.mg "set"=none)(hm:md.getD i 0=98:=by rfl)(hi:X.N[i]? =some x:=by rfl)(hx:Loc X.env.scope x:=by first|exact Or.inl rfl|exact Or.inr rfl)(hs:swapsWith (.Call (.Name "set" p) [] [] p2) (some (.Name x pos')) pos.line X.env=pure false:=by rfl)
  (hf:X.fn x=true\/X.env.scope.names.lookup x=some .local:=by first|exact .inl rfl|exact .inr rfl|assumption):DSt Z X md rn (.Assign [.Name x pos'] (.Call (.Name "set" p) [] [] p2) pos) (Ks X.w i):=by
 refine(lB hN hi hx (FK hg y6) hs hf).imp ?_;intro D σ H aJ;rfl';obtain⟨B,ρ,E,⟨G,fp,S⟩,h,M⟩:=aJ;ac_rfl;intro c hc;have gc:G c=none:=S.ex.sub.free hc;have x:Ext G H G (upd H c (.ext (fk (fV X.w) c []))):=⟨.refl _,S.ex.sub.trans (aW hc _),aW hc _,λ_ _ z=>z⟩;refine M.nx _ h _ _ ⟨G,_,(S.grow x).Jr hm (f:= [c]) (.inr (.inr ⟨c,_,rfl,av,rfl, .inr ⟨rfl,_,rfl,ic,[],rfl, .nil⟩⟩)) (by simp) (λb hb=>?_) λb hb j _ hj=>?_⟩
 ·rw[jw] at hb;subst hb
  exact⟨S.ex.hh.free hc,(by rw[av];exact λz=>nomatch z),gc⟩
 ·rw[jw] at hb;subst hb
  exact(S.nw j _ hj).2.1 hc
def OG(w:World)(md:List Nat)(m:Bool)(i:Nat)(te:bg):cN:=λE ρ=>∃ps,ρ[i]? =some (some (.x (.qD (fV w) ps)))/\te (BD md m ρ) λd=>∃p,d=Ql p/\ps.length<=300/\E.nx (ρ.set i (some (.x (.qD (fV w) (AI ps p)))))
theorem Hf(m:Bool)(i:Nat){x:Str}{px:Pos}(hu:X.A.units+64<cLine)(he:DE Z X e te)(hm:md.getD i 0=98:=by rfl)(hi:X.N[i]? =some x:=by rfl)(hv:kT X.env.scope x:=by first|exact Or.inl rfl|exact Or.inr (Or.inl rfl) |exact Or.inr (Or.inr rfl))(hd:(x==("__debug__":Str))=false:=by decide)(dG:(x==("__classdict__":Str))=false:=by decide)
  (fq:attributeBase (.Name x px) "add" X.env (eval (.Name x px) X.env)=eval (.Name x px) X.env:=by rfl)
  (ku:((backTo aU (starEach [e] X.env)).all (λx=>!x.1)&&(backToKw aU (keywordEach [] X.env)).all (λx=>x.1.isSome)&&decide (([e]:List Expr).length+([]:List Keyword).length+(if ([]:List Keyword).isEmpty then 0 else 1)<30))=true:=by rfl)
  (eU:(apos.endLine==aU.line)=true:=by rfl) (hs:starEach [e] X.env=(false,eval e X.env)::starEach [] X.env:=by rfl) (fF:(backTo aU (starEach [] X.env)).any (·.1)=false:=by rfl)
  (jU:swapsWith (.Call (.Attribute (.Name x px) "add" apos) [e] [] aU) none pos.line X.env=pure false:=by rfl):
  DSt Z X md rn (.Expr (.Call (.Attribute (.Name x px) "add" apos) [e] [] aU) pos) (OG X.w md m i te):=by
 refine(kG (LI (b:=fV X.w) PySem.F.plainAttrs_set PySem.F.slot_set_add PySem.F.type_set_add (Ij hu) (pv i hi hv hd dG) (cS he fU hs) fq ku eU hs fF) jU).imp ?_;intro D σ H aJ;rfl';obtain⟨B,ρ,E,⟨G,fp,S⟩,⟨ps,h1,h⟩,M⟩:=aJ;ac_rfl;rfl';obtain⟨v0,ji,o0⟩:=S.at_ i _ h1;rw[hm] at o0;obtain⟨l,φ,rfl,hl,_,nd,es,rfl,pe⟩:=o0.xA;ac_rfl;refine⟨_,ji,⟨l,_,rfl,hl⟩,S.ev m h λd hd=>?_⟩;obtain⟨p,rfl,hz,hn⟩:=hd;refine⟨by cases m<;>trivial,λv G' H' S' x dv=>?_⟩
 rfl';obtain⟨c,rfl,hc⟩:=dv.NL;obtain⟨v1,HP,o1⟩:=S'.at_ i _ h1;rw[ji] at HP;ac_rfl;cases Option.some.inj HP;rfl';rw[hm] at o1;obtain⟨l',φ',e',Fn,KR,oh,mJ,rfl,WV⟩:=o1.xA;cases e';ac_rfl;refine⟨l,c,mJ,ps,p,rfl,rfl,x.sub _ _ hc,Fn,WV.mono x.sub,hz,λhp=>?_,λhp=>?_⟩
 ·rw[AI,if_pos hp] at hn
  refine M.nx _ hn _ _ ⟨G',fp,?_⟩
  have e:ρ.set i (some (.x (.qD (fV X.w) ps)))=ρ:=by
   refine wo λj=>?_
   by_cases z:i=j
   ·subst z
    have cG:=(dE.mp h1).1;rw[iH cG,h1]
   ·rw[jv z]
  rw[e];exact S'
 ·rw[AI,if_neg hp] at hn
  refine M.nx _ hn _ _ ⟨G',fp,S'.mut ji (b:=l) (by rw[KR];simp) ?_⟩
  rw[hm,KR];refine .inr (.inr ⟨l,_,rfl,av,rfl, .inr ⟨rfl,_,rfl,?_,_,rfl,WV.snoc hc⟩⟩);rw[gF];refine⟨oh,by simp,λa ha b hb z=>hp ?_⟩
  rw[jw] at hb;rw[<-hb,<-z];exact ha
end
section
variable {Z:DC} {X:Cx} {md:List Nat} {rn:Nat} {a b:Expr} {pos:Pos} {ta:gn}
def SK(md:List Nat)(i j:Nat)(ta:gn):cN:=λE ρ=>ta (cJ md ρ) λds=>∃a b,ds= [a,b]/\E.nx ((ρ.set i (some a)).set j (some b))
theorem D8(i j:Nat){x y:Str}{px py pt:Pos}{kt k2 C7}(hc:X.calm=true)(hN:X.N.Nodup)(ha:DA Z X [a,b] ta)(hi:X.N[i]? =some x:=by rfl)(hj:X.N[j]? =some y:=by rfl)(KU:i≠j:=by decide)(hm:md.getD i 0=0:=by rfl)(hm2:md.getD j 0=0:=by rfl)
  (hx:X.env.scope.names.lookup x=some .local:=by rfl) (hy:X.env.scope.names.lookup y=some .local:=by rfl)
  (hw:swappedStores [.Tuple [.Name x px, .Name y py] kt pt] (.Tuple [a,b] k2 C7) X.env=pure (some [x,y]):=by rfl)
  (hs:swapsWithSole [.Tuple [.Name x px, .Name y py] kt pt] (.Tuple [a,b] k2 C7) pos.line X.env=pure false:=by rfl):
  DSt Z X md rn (.Assign [.Tuple [.Name x px, .Name y py] kt pt] (.Tuple [a,b] k2 C7) pos) (SK md i j ta):=by
 refine(LX hc hN hi hj KU hx hy ha hw hs).imp ?_;intro D σ H aJ;rfl';obtain⟨B,ρ,E,⟨G,fp,S⟩,h,M⟩:=aJ;ac_rfl;refine⟨G,cJ md ρ,_,S.ex.sub,S.qf,h,?_⟩;rintro _ ⟨a,b,rfl,hn⟩ vs G' H' x bw;obtain⟨v,u,rfl,d1,d2⟩:=bw.zu;exact⟨v,u,rfl,M.nx _ hn _ _ ⟨G',_,((S.grow x).nA hm d1).nA hm2 d2⟩⟩
end
end L2
namespace Wy
def S{α:Type}(f:α->Int):List α->Int
 | []=>0
 |x::l=>f x+S f l
section
variable {α β:Type}
theorem Gz(f:α->Int):∀l m:List α,S f (l++m)=S f l+S f m
 | [],m=>by simp[S]
 |x::l,m=>by simp[S,Gz f l m];omega
theorem yK(f:β->Int)(g:α->β):∀l:List α,S f (l.map g)=S (λx=>f (g x)) l
 | []=>rfl
 |x::l=>by simp[S,yK f g l]
theorem jb{f g:α->Int}:∀{l:List α},(∀x∈l,f x=g x)->S f l=S g l
 | [],_=>rfl
 |x::l,h=>by
  rw[S,S,h x (b6 ..),jb λy hy=>h y (bP _ hy)]
theorem zU(c:Int):∀l:List α,S (λ_=>c) l=l.length*c
 | []=>by simp[S]
 |x::l=>by
  rw[S,zU c l,cw,Int.natCast_add,Int.add_mul];simp;omega
theorem GA(c:Int)(f:α->Int):∀l:List α,S (λx=>c*f x) l=c*S f l
 | []=>by simp[S]
 |x::l=>by rw[S,S,GA c f l,Int.mul_add]
theorem iT(f:α->Int)(p:α->Bool):∀l:List α,S f (l.filter p)=S (λx=>if p x=true then f x else 0) l
 | []=>rfl
 |x::l=>by
  rw[gG]
  by_cases h:p x=true
  ·rw[if_pos h,S,S,if_pos h,iT f p l]
  ·rw[if_neg h,S,if_neg h,iT f p l];omega
end
def ev(l:List Int)(k:Int):Int:=l.foldr (λa t=>t*k+a) 0
theorem eZ(a:Int)(l:List Int)(k:Int):ev (a::l) k=ev l k*k+a:=rfl
theorem xw:∀(l:List Int)(k:Int),ev (l++ [0]) k=ev l k
 | [],k=>by simp[ev]
 |a::l,k=>by rw[List.cons_append,eZ,eZ,xw l k]
theorem Eb(m:Int):∀(u v:List Int)(k:Int),u.length=v.length->ev (List.zipWith (λa b=>a-m*b) u v) k=ev u k-m*ev v k
 | [],[],k,_=>by simp[ev]
 |a::u,b::v,k,h=>by
  rw[List.zipWith_cons_cons,eZ,eZ,eZ,Eb m u v k (by simpa using h)]
  rw[Int.sub_mul,Int.mul_add,Int.mul_assoc];omega
 | [],_::_,_,h=>by simp at h
 |_::_,[],_,h=>by simp at h
def vn(m:Int)(l:List Int):List Int:=List.zipWith (λa b=>a-m*b) (0::l) (l++ [0])
def bH:Nat->List Int
 |0=> [1]
 |m+1=>vn m (bH m)
def fv:Nat->Int->Int
 |0,_=>1
 |m+1,k=>fv m k*(k-m)
theorem CN(m:Int)(l:List Int):(vn m l).length=l.length+1:=by unfold vn;simp
theorem fZ:∀m,(bH m).length=m+1
 |0=>rfl
 |m+1=>by rw[bH,CN,fZ m]
theorem As:∀(m:Nat)(k:Int),ev (bH m) k=fv m k
 |0,k=>by simp[bH,ev,fv]
 |m+1,k=>by
  rw[bH,vn,Eb _ _ _ _ (by simp),eZ,xw,As m k,fv,Int.mul_sub,Int.mul_comm (m:Int)]
  omega
def cR:List Int->List Int->List Int
 | [],_=> []
 |t,[]=>t
 |a::t,b::l=>(a+b)::cR t l
theorem kU:∀t l:List Int,(cR t l).length=t.length
 | [],_=>by simp[cR]
 |_::_,[]=>rfl
 |a::t,b::l=>by simp[cR,kU t l]
theorem D9:∀(t l:List Int)(k:Int),l.length<=t.length->ev (cR t l) k=ev t k+ev l k
 | [],[],k,_=>by simp[cR,ev]
 | [],_::_,_,h=>by simp at h
 |a::t,[],k,_=>by simp[cR,ev]
 |a::t,b::l,k,h=>by
  rw[cR,eZ,eZ,eZ,D9 t l k (by simpa using h),Int.add_mul]
  omega
theorem Ea(c:Int):∀(l:List Int)(k:Int),ev (l.map (c*·)) k=c*ev l k
 | [],k=>by simp[ev]
 |a::l,k=>by rw[iJ,eZ,eZ,Ea c l k,Int.mul_add,Int.mul_assoc]
theorem Av:∀(n:Nat)(k:Int),ev (List.replicate n 0) k=0
 |0,k=>rfl
 |n+1,k=>by rw[oK,eZ,Av n k];simp
def f9:List Int->List Int->Nat->List Int
 |t,[],_=>t
 |t,c::cs,m=>f9 (cR t ((bH m).map (c*·))) cs (m+1)
theorem vZ:∀(cs t:List Int)(m:Nat),(f9 t cs m).length=t.length
 | [],t,m=>rfl
 |c::cs,t,m=>by rw[f9,vZ cs,kU]
def oW:List Int->Nat->Int->Int
 | [],_,_=>0
 |c::cs,m,k=>c*fv m k+oW cs (m+1) k
theorem Au:∀(cs t:List Int)(m:Nat)(k:Int),m+cs.length<=t.length->ev (f9 t cs m) k=ev t k+oW cs m k
 | [],t,m,k,_=>by simp[f9,oW]
 |c::cs,t,m,k,h=>by
  rw[cw] at h;rw[f9,Au cs _ (m+1) k (by rw[kU];omega),D9 _ _ _ (by rw[aG,fZ];omega),Ea,As,oW]
  omega
abbrev Parts:=List (List Nat)
def jg(row part:List Nat):Bool:=part.all λq=>!decide (q∈row)
def cC(parts:Parts)(p:Nat)(row:List Nat):List Parts:=
 (parts++ [[p]])::((List.range parts.length).filter λi=>jg row (parts.getD i [])).map λi=>parts.set i (parts.getD i []++ [p])
def eu(w:Nat->List Nat):Nat->Nat->List Parts->List Parts
 |0,_,L=>L
 |m+1,p,L=>eu w m (p+1) (L.flatMap λparts=>cC parts p (w p))
theorem yk(w:Nat->List Nat):∀(m p:Nat)(L M:List Parts),eu w m p (L++M)=eu w m p L++eu w m p M
 |0,_,_,_=>rfl
 |m+1,p,L,M=>by rw[eu,eu,eu,List.flatMap_append,yk w m]
theorem ym(w:Nat->List Nat):∀(m p:Nat),eu w m p []= []
 |0,_=>rfl
 |m+1,p=>by rw[eu,BO,ym w m]
theorem GB(w:Nat->List Nat)(f:Parts->Int)(m p:Nat):∀L:List Parts,S f (eu w m p L)=S (λx=>S f (eu w m p [x])) L
 | []=>by rw[ym];rfl
 |x::L=>by
  have:x::L= [x]++L:=rfl
  rw[this,yk,Gz,GB w f m p L];rfl
def taken(r:List Nat)(row:List Nat):List Nat:=(row.filter λq=>decide (q<r.length)).map λq=>r.getD q 0
def qc(k:Nat)(r:List Nat)(row:List Nat):List Nat:=(List.range k).filter λd=>!decide (d∈taken r row)
def eo(w:Nat->List Nat)(k:Nat):Nat->List (List Nat)->List (List Nat)
 |0,L=>L
 |m+1,L=>eo w k m (L.flatMap λr=>(qc k r (w r.length)).map λd=>r++ [d])
theorem yi(w:Nat->List Nat)(k:Nat):∀(m:Nat)(L M:List (List Nat)),eo w k m (L++M)=eo w k m L++eo w k m M
 |0,_,_=>rfl
 |m+1,L,M=>by rw[eo,eo,eo,List.flatMap_append,yi w k m]
theorem yj(w:Nat->List Nat)(k:Nat):∀(m:Nat),eo w k m []= []
 |0=>rfl
 |m+1=>by rw[eo,BO,yj w k m]
theorem AU(w:Nat->List Nat)(k:Nat)(m:Nat):∀L:List (List Nat),((eo w k m L).length:Int)=S (λx=>((eo w k m [x]).length:Int)) L
 | []=>by rw[yj];rfl
 |x::L=>by
  have:x::L= [x]++L:=rfl
  rw[this,yi,cx,Int.natCast_add,AU w k m L];rfl
structure yH (k:Nat) (r:List Nat) (parts:Parts) (c:List Nat):Prop where
 len:c.length=parts.length
 nd:c.Nodup
 lt:∀d∈c,d<k
 col:∀(i q:Nat),q∈parts.getD i []->q<r.length/\r.getD q 0=c.getD i 0
 cov:∀q,q<r.length->∃i,i<parts.length/\q∈parts.getD i []
theorem gO{α:Type}(l:List α)(x d:α)(i:Nat):(l++ [x]).getD i d=if i<l.length then l.getD i d else if i=l.length then x else d:=by
 simp only[aV]
 by_cases h:i<l.length
 ·rw[if_pos h,gk h]
 ·rw[if_neg h]
  by_cases e:i=l.length
  ·rw[if_pos e,e,hU (bC _)];simp
  ·rw[if_neg e,fi (by simp;omega)];rfl
theorem kr{α:Type}(l:List α)(x d:α)(i j:Nat):(l.set i x).getD j d=if i=j/\i<l.length then x else l.getD j d:=by
 simp only[aV,hZ]
 by_cases e:i=j
 ·subst e
  by_cases h:i<l.length
  ·rw[if_pos rfl,if_pos h,if_pos ⟨rfl,h⟩];rfl
  ·rw[if_pos rfl,if_neg h,if_neg (λz=>h z.2),fi (by omega)]
 ·rw[if_neg e,if_neg (λz=>e z.1)]
theorem getD_mem{l:List Nat}{i:Nat}(h:i<l.length):l.getD i 0∈l:=by
 rw[aV,bO h];exact wq h
theorem yH.new{k d:Nat}{r:List Nat}{parts:Parts}{c:List Nat}(K:yH k r parts c)(hd:d<k)(hc:d∉c):yH k (r++ [d]) (parts++ [[r.length]]) (c++ [d]) where
 len:=by simp[K.len]
 nd:=by
  refine gF.mpr ⟨K.nd,by simp,λa ha b hb=>?_⟩
  have:b=d:=by simpa using hb
  rw[this];exact λz=>hc (by rw[<-z];exact ha)
 lt:=λx hx=>by
  rcases fK.mp hx with h|h
  ·exact K.lt x h
  ·have:x=d:=by simpa using h
   rw[this];exact hd
 col:=λi q hq=>by
  rw[gO] at hq;rw[gO,gO,K.len]
  by_cases h:i<parts.length
  ·rw[if_pos h] at hq ⊢
   obtain⟨h1,h2⟩:=K.col i q hq;rw[if_pos h1];exact⟨by simp;omega,h2⟩
  ·rw[if_neg h] at hq ⊢
   by_cases e:i=parts.length
   ·rw[if_pos e] at hq ⊢
    have:q=r.length:=by simpa using hq
    subst this;rw[if_neg (fz _),if_pos rfl];exact⟨by simp,rfl⟩
   ·rw[if_neg e] at hq;cases hq
 cov:=λq hq=>by
  by_cases h:q<r.length
  ·obtain⟨i,hi,hm⟩:=K.cov q h
   exact⟨i,by simp;omega,by rw[gO,if_pos hi];exact hm⟩
  ·have:q=r.length:=by simp at hq;omega
   exact⟨parts.length,by simp,by rw[gO,if_neg (fz _),if_pos rfl,this];simp⟩
theorem yH.old{k i:Nat}{r:List Nat}{parts:Parts}{c:List Nat}(K:yH k r parts c)(hi:i<parts.length):yH k (r++ [c.getD i 0]) (parts.set i (parts.getD i []++ [r.length])) c where
 len:=by simp[K.len]
 nd:=K.nd
 lt:=K.lt
 col:=λj q hq=>by
  rw[kr] at hq;rw[gO]
  by_cases h:i=j/\i<parts.length
  ·rw[if_pos h] at hq
   obtain⟨h1,_⟩:=h;subst h1
   rcases fK.mp hq with z|z
   ·obtain⟨h1,h2⟩:=K.col i q z
    rw[if_pos h1];exact⟨by simp;omega,h2⟩
   ·have:q=r.length:=by simpa using z
    subst this;rw[if_neg (fz _),if_pos rfl];exact⟨by simp,rfl⟩
  ·rw[if_neg h] at hq
   obtain⟨h1,h2⟩:=K.col j q hq;rw[if_pos h1];exact⟨by simp;omega,h2⟩
 cov:=λq hq=>by
  by_cases h:q<r.length
  ·obtain⟨j,hj,hm⟩:=K.cov q h
   refine⟨j,by simpa using hj,?_⟩
   rw[kr]
   by_cases e:i=j/\i<parts.length
   ·rw[if_pos e,e.1];exact kM _ hm
   ·rw[if_neg e];exact hm
  ·have:q=r.length:=by simp at hq;omega
   refine⟨i,by simpa using hi,?_⟩
   rw[kr,if_pos ⟨rfl,hi⟩,this];exact fN _ (by simp)
theorem Kf{α:Type}(f:α->Int){l m:List α}(h:l.Perm m):S f l=S f m:=by
 induction h with
 |nil=>rfl
 |cons x _ ih=>rw[S,S,ih]
 |swap x y l=>simp only[S];omega
 |trans _ _ a b=>exact a.trans b
theorem Gy{α:Type}(f g:α->Int):∀l:List α,S (λx=>f x+g x) l=S f l+S g l
 | []=>rfl
 |x::l=>by rw[S,S,S,Gy f g l];omega
theorem oz{k:Nat}{c:List Nat}(nd:c.Nodup)(lt:∀d∈c,d<k):((List.range k).filter λd=>decide (d∈c)).Perm c:=by
 refine(yB (List.nodup_range.filter _) nd).mpr λd=>?_;rw[ib,cT,decide_eq_true_iff];exact⟨λh=>h.2,λh=>⟨lt d h,h⟩⟩
theorem xQ{α:Type}(p:α->Bool):∀l:List α,(l.filter p).length+(l.filter λx=>!p x).length=l.length
 | []=>rfl
 |x::l=>by
  have:=xQ p l
  rw[gG,gG];cases p x<;>simp<;>omega
theorem IG{k:Nat}{c:List Nat}(nd:c.Nodup)(lt:∀d∈c,d<k):(((List.range k).filter λd=>!decide (d∈c)).length:Int)=(k:Int)-c.length:=by
 have h1:=xQ (λd=>decide (d∈c)) (List.range k);rw[(oz nd lt).length_eq,iI] at h1;omega
theorem pj{r row:List Nat}{d:Nat}:d∈taken r row↔∃q,q∈row/\q<r.length/\r.getD q 0=d:=by
 unfold taken;simp only[b8,ib,decide_eq_true_iff];exact⟨λ⟨q,⟨h1,h2⟩,h3⟩=>⟨q,h1,h2,h3⟩,λ⟨q,h1,h2,h3⟩=>⟨q,⟨h1,h2⟩,h3⟩⟩
theorem A4{c:List Nat}(nd:c.Nodup){i j:Nat}(hi:i<c.length)(hj:j<c.length)(e:c.getD i 0=c.getD j 0):i=j:=by
 rw[aV,aV,bO hi,bO hj] at e;have e':c[i]=c[j]:=e;exact(List.getElem?_inj hi nd).mp (by rw[bO hi,bO hj,e'])
theorem range_getD(c:List Nat):(List.range c.length).map (λi=>c.getD i 0)=c:=by
 refine wo λi=>?_;rw[cA]
 by_cases h:i<c.length
 ·rw[oM h,bO h]
  simp[aV,h]
 ·rw[fi (by simp;omega),fi (by omega)];rfl
theorem Ke{k:Nat}{r row:List Nat}{parts:Parts}{c:List Nat}(K:yH k r parts c)(F:Nat->Int):
  S F (qc k r row)=S F ((List.range k).filter λd=>!decide (d∈c))+S (λi=>F (c.getD i 0)) ((List.range parts.length).filter λi=>jg row (parts.getD i [])):=by
 have tc:∀d,d∈taken r row->d∈c:=λd hd=>by
  obtain⟨q,_,h2,h3⟩:=pj.mp hd;obtain⟨i,hi,hm⟩:=K.cov q h2
  have:=(K.col i q hm).2
  rw[<-h3,this];exact getD_mem (by rw[K.len];exact hi)
 have ti:∀i,i<parts.length->(decide (c.getD i 0∈taken r row)= !jg row (parts.getD i [])):=λi hi=>by
  by_cases h:c.getD i 0∈taken r row
  ·rw[decide_eq_true h]
   obtain⟨q,h1,h2,h3⟩:=pj.mp h;obtain⟨j,hj,hm⟩:=K.cov q h2;have e:=(K.col j q hm).2
   have:i=j:=A4 K.nd (by rw[K.len];exact hi) (by rw[K.len];exact hj) (by rw[<-e,h3])
   subst this
   have:jg row (parts.getD i [])=false:=by
    apply yF.mpr;intro z;unfold jg at z;rw[kO] at z
    have:=z q hm
    simp[h1] at this
   rw[this];rfl
  ·rw[decide_eq_false h]
   have:jg row (parts.getD i [])=true:=by
    unfold jg;rw[kO];intro q hq;have⟨h1,h2⟩:=K.col i q hq
    have:q∉row:=λz=>h (pj.mpr ⟨q,z,h1,h2⟩)
    simp[this]
   rw[this];rfl
 unfold qc;rw[iT,iT,iT]
 have e1:S (λd=>if (!decide (d∈taken r row))=true then F d else 0) (List.range k)=
   S (λd=>(if (!decide (d∈c))=true then F d else 0)+(if decide (d∈c)=true then(if (!decide (d∈taken r row))=true then F d else 0) else 0)) (List.range k):=by
  refine jb λd _=>?_
  by_cases hc:d∈c
  ·simp[hc]
  ·have:d∉taken r row:=λz=>hc (tc d z)
   simp[hc,this]
 rw[e1,Gy,<-iT (λd=>if (!decide (d∈taken r row))=true then F d else 0) (λd=>decide (d∈c)),Kf _ (oz K.nd K.lt)]
 congr 1
 have e2:=range_getD c;rw[K.len] at e2
 conv=>lhs;rw[<-e2]
 rw[yK];refine jb λi hi=>?_;rw[cT] at hi;rw[ti i hi,Bool.not_not]
def gv(k:Int):Nat->Nat->Int
 |_,0=>1
 |j,t+1=>(k-j)*gv k (j+1) t
theorem AD(k:Int):∀(t j:Nat),gv k j (t+1)=gv k j t*(k-(j+t:Nat))
 |0,j=>by simp[gv]
 |t+1,j=>by
  rw[gv,AD k t (j+1),gv,Int.mul_assoc]
  congr 2
  have:j+1+t=j+(t+1):=by omega
  rw[this]
theorem Ht(k:Int):∀m:Nat,gv k 0 m=fv m k
 |0=>rfl
 |m+1=>by rw[AD,Ht k m,fv];simp
theorem yz{parts F:Parts}{p:Nat}{row:List Nat}(h:F∈cC parts p row):parts.length<=F.length/\F.length<=parts.length+1:=by
 unfold cC at h
 rcases cm.mp h with h|h
 ·rw[h];simp
 ·obtain⟨i,_,rfl⟩:=b8.mp h
  simp
theorem Bk(w:Nat->List Nat)(n:Nat):∀(m p:Nat)(L:List Parts),(∀x∈L,n<=x.length)->∀F∈eu w m p L,n<=F.length
 |0,_,L,h,F,hF=>h F hF
 |m+1,p,L,h,F,hF=>Bk w n m (p+1) _ (λx hx=>by
   obtain⟨y,hy,ze⟩:=oN.mp hx;exact jx (h y hy) (yz ze).1) F hF
theorem Ca(w:Nat->List Nat)(k:Nat):∀(m:Nat)(r:List Nat)(parts:Parts)(c:List Nat),yH k r parts c->
  ((eo w k m [r]).length:Int)=S (λF=>gv k parts.length (F.length-parts.length)) (eu w m r.length [parts])
 |0,r,parts,c,K=>by simp[eo,eu,S,gv]
 |m+1,r,parts,c,K=>by
  rw[eo,nO,BO,kP,AU,yK,Ke K];rw[eu,nO,BO,kP,GB];unfold cC;rw[S,yK]
  have eN:S (λx=>((eo w k m [r++ [x]]).length:Int)) ((List.range k).filter λd=>!decide (d∈c))=S (λF=>gv k parts.length (F.length-parts.length)) (eu w m (r.length+1) [parts++ [[r.length]]]):=by
   have:S (λx=>((eo w k m [r++ [x]]).length:Int)) ((List.range k).filter λd=>!decide (d∈c))=S (λ_=>S (λF=>gv k (parts.length+1) (F.length-(parts.length+1))) (eu w m (r.length+1) [parts++ [[r.length]]])) ((List.range k).filter λd=>!decide (d∈c)):=by
    refine jb λd hd=>?_;rw[ib,cT] at hd;have hc:d∉c:=by simpa using hd.2
    have:=Ca w k m (r++ [d]) _ _ (K.new hd.1 hc)
    rw[cx,cx] at this;exact this
   rw[this,zU,IG K.nd K.lt,K.len,<-GA];refine jb λF hF=>?_
   have hl:=Bk w (parts.length+1) m (r.length+1) [parts++ [[r.length]]] (λx hx=>by
    have:x=parts++ [[r.length]]:=by simpa using hx
    rw[this];simp) F hF
   obtain⟨t,ht⟩:∃t,F.length=parts.length+1+t:=⟨F.length-(parts.length+1),by omega⟩
   rw[ht,show parts.length+1+t-(parts.length+1)=t by omega,show parts.length+1+t-parts.length=t+1 by omega,gv]
  rw[eN]
  congr 1
  refine jb λi hi=>?_;rw[ib,cT] at hi
  have:=Ca w k m (r++ [c.getD i 0]) _ _ (K.old hi.1)
  rw[cx,dB] at this;exact this
theorem Hg(w:Nat->List Nat)(k n:Nat):((eo w k n [[]]).length:Int)=S (λF=>fv F.length k) (eu w n 0 [[]]):=by
 have K:yH k [] [] []:=⟨rfl,ic,(λd h=>by cases h),(λi q h=>by simp at h),(λq h=>by simp at h)⟩
 have:=Ca w k n [] [] [] K
 rw[this];refine jb λF _=>?_;show gv k 0 F.length=_;exact Ht _ _
def bump(cs:List Int)(i:Nat):List Int:=cs.set i (cs.getD i 0+1)
theorem xt:∀(cs:List Int)(i m:Nat)(k:Int),i<cs.length->oW (bump cs i) m k=oW cs m k+fv (m+i) k
 | [],i,m,k,h=>by simp at h
 |c::cs,0,m,k,h=>by
  show(c+1)*fv m k+oW cs (m+1) k=c*fv m k+oW cs (m+1) k+fv m k;rw[Int.add_mul];omega
 |c::cs,i+1,m,k,h=>by
  have:=xt cs i (m+1) k (by simpa using h)
  show c*fv m k+oW (bump cs i) (m+1) k=_;rw[this,oW,show m+1+i=m+(i+1) by omega]
  omega
def counts(cs:List Int)(L:List Parts):List Int:=L.foldl (λcs F=>bump cs F.length) cs
theorem jC:∀(L:List Parts)(cs:List Int),(counts cs L).length=cs.length
 | [],cs=>rfl
 |F::L,cs=>by
  show(counts (bump cs F.length) L).length=_;rw[jC L];unfold bump;simp
theorem sC(k:Int):∀(L:List Parts)(cs:List Int),(∀F∈L,F.length<cs.length)->oW (counts cs L) 0 k=oW cs 0 k+S (λF=>fv F.length k) L
 | [],cs,_=>by simp[counts,S]
 |F::L,cs,h=>by
  show oW (counts (bump cs F.length) L) 0 k=_;rw[sC k L _ (λG hG=>by unfold bump;rw[dB];exact h G (bP _ hG)),xt _ _ _ _ (h F (b6 ..)),S]
  simp;omega
theorem so(m:Nat):∀(L:List Parts)(cs:List Int),m<cs.length->(counts cs L).getD m 0=cs.getD m 0+S (λF=>if F.length=m then 1 else 0) L
 | [],cs,_=>by simp[counts,S]
 |F::L,cs,h=>by
  show(counts (bump cs F.length) L).getD m 0=_;rw[so m L _ (by unfold bump;simpa using h),S]
  unfold bump;rw[kr]
  by_cases e:F.length=m
  ·rw[if_pos ⟨e,by omega⟩,if_pos e,e];omega
  ·rw[if_neg (λz=>e z.1),if_neg e];omega
theorem xu(k:Int):∀(n m:Nat),oW (List.replicate n 0) m k=0
 |0,m=>rfl
 |n+1,m=>by rw[oK,oW,xu k n];simp
theorem yn(w:Nat->List Nat):∀(m p:Nat)(L:List Parts),eu w (m+1) p L=(eu w m p L).flatMap λx=>cC x (p+m) (w (p+m))
 |0,p,L=>by simp[eu]
 |m+1,p,L=>by
  rw[eu,yn w m (p+1),eu];rw[show p+1+m=p+(m+1) by omega]
def ig(w:Nat->List Nat)(p:Nat):List Parts:=eu w p 0 [[]]
theorem km(w:Nat->List Nat)(p:Nat):ig w (p+1)=(ig w p).flatMap λx=>cC x p (w p):=by
 unfold ig;rw[yn,r8]
theorem qg(w:Nat->List Nat):∀p,∀F∈ig w p,F.length<=p
 |0,F,h=>by
  have:F= []:=by simpa [ig,eu] using h
  rw[this];simp
 |p+1,F,h=>by
  rw[km] at h;obtain⟨x,hx,hF⟩:=oN.mp h
  have:=qg w p x hx
  have:=(yz hF).2
  omega
def qR(w:Nat->List Nat)(n:Nat):List Int:=f9 (List.replicate (n+1) 0) (counts (List.replicate (n+1) 0) (ig w n)) 0
theorem JZ(w:Nat->List Nat)(n:Nat)(k:Int):ev (qR w n) k=S (λF=>fv F.length k) (ig w n):=by
 unfold qR;rw[Au _ _ _ _ (by rw[jC];simp),Av,sC k _ _ (λF hF=>by have:=qg w n F hF;simp;omega),xu]
 omega
theorem sW(w:Nat->List Nat)(n k:Nat):ev (qR w n) k=((eo w k n [[]]).length:Int):=by rw[JZ,Hg];rfl
theorem Jn(n j:Nat):(List.replicate n (0:Int)).getD j 0=0:=by
 rw[aV,nK]
 split<;>rfl
def fact:Nat->Nat
 |0=>1
 |n+1=>(n+1)*fact n
theorem DB{parts:Parts}{p:Nat}{row:List Nat}:(cC parts p row).length<=parts.length+1:=by
 unfold cC;rw[cw,aG]
 have:=List.length_filter_le (λi=>jg row (parts.getD i [])) (List.range parts.length)
 rw[iI] at this;omega
theorem uU{α β:Type}(g:α->List β)(c:Nat):∀l:List α,(∀x∈l,(g x).length<=c)->(l.flatMap g).length<=c*l.length
 | [],_=>by simp
 |x::l,h=>by
  rw[nO,cx,cw,Nat.mul_succ];have h1:=h x (b6 ..);have h2:=uU g c l λy hy=>h y (bP _ hy);omega
theorem rF(w:Nat->List Nat):∀p,(ig w p).length<=fact p
 |0=>by simp[ig,eu,fact]
 |p+1=>by
  rw[km,fact];refine jx (uU _ (p+1) _ λx hx=>?_) (Nat.mul_le_mul_left _ (rF w p));have h1:=qg w p x hx
  have:=DB (parts:=x) (p:=p) (row:=w p)
  omega
theorem Dz{parts F:Parts}{p n:Nat}{row:List Nat}(h:F∈cC parts p row)(hn:∀i,(parts.getD i []).length<=n):∀i,(F.getD i []).length<=n+1:=λj=>by
 unfold cC at h
 rcases cm.mp h with h|h
 ·rw[h,gO]
  split
  ·exact Nat.le_succ_of_le (hn j)
  ·split
   ·simp
   ·simp
 ·obtain⟨i,_,rfl⟩:=b8.mp h
  rw[kr]
  split
  ·have:=hn i
   simp;exact hn i
  ·exact Nat.le_succ_of_le (hn j)
theorem xB(w:Nat->List Nat):∀p,∀F∈ig w p,∀i,(F.getD i []).length<=p
 |0,F,h,i=>by
  have:F= []:=by simpa [ig,eu] using h
  rw[this];simp
 |p+1,F,h,i=>by
  rw[km] at h;obtain⟨x,hx,hF⟩:=oN.mp h;exact Dz hF (xB w p x hx) i
theorem v5(c:Int):∀(cs t:List Int)(m:Nat),f9 t (cs++ [c]) m=cR (f9 t cs m) ((bH (m+cs.length)).map (c*·))
 | [],t,m=>by simp[f9]
 |d::cs,t,m=>by
  rw[List.cons_append,f9,v5 c cs,f9,cw,show m+1+cs.length=m+(cs.length+1) by omega]
theorem uj(t:List Int):cR t []=t:=by cases t<;>rfl
theorem sg(b:Int):∀(t l:List Int),l.length<t.length->cR t (l++ [b])=(cR t l).set l.length ((cR t l).getD l.length 0+b)
 | [],l,h=>by simp at h
 |a::t,[],h=>by simp[cR,uj]
 |a::t,c::l,h=>by
  have:=sg b t l (by simpa using h)
  simp only[List.cons_append,cR,this,cw];simp
theorem Ef(m:Nat):∀L:List Parts,0<=S (λF=>if F.length=m then 1 else 0) L/\S (λF=>if F.length=m then 1 else 0) L<=L.length
 | []=>by simp[S]
 |F::L=>by
  obtain⟨h1,h2⟩:=Ef m L;rw[S,cw]
  split<;>constructor<;>omega
theorem BZ(w:Nat->List Nat)(n m:Nat)(h:m<n+1):0<=(counts (List.replicate (n+1) 0) (ig w n)).getD m 0/\(counts (List.replicate (n+1) 0) (ig w n)).getD m 0<=fact n:=by
 rw[so m _ _ (by simpa using h),Jn]
 obtain⟨h1,h2⟩:=Ef m (ig w n)
 have:=rF w n
 constructor<;>omega
theorem zip_map(m:Int):∀u v:List Int,(u.zip v).map (λy=>y.1-m*y.2)=List.zipWith (λa b=>a-m*b) u v
 | [],_=>by simp
 |_::_,[]=>by simp
 |a::u,b::v=>by simp[zip_map m u v]
theorem yP(cs:List Int)(L:List Parts)(F:Parts):counts cs (L++ [F])=bump (counts cs L) F.length:=by unfold counts;rw[List.foldl_append];rfl
theorem KJ(l:List Int)(k:Int):l.reverse.foldl (λt a=>t*k+a) 0=ev l k:=by unfold ev;rw[List.foldl_reverse]
theorem uR{n:Nat}(h:n<=8):fact n<=40320:=by
 match n,h with
 |0,_=>decide
 |1,_=>decide
 |2,_=>decide
 |3,_=>decide
 |4,_=>decide
 |5,_=>decide
 |6,_=>decide
 |7,_=>decide
 |8,_=>decide
theorem vN(w:Nat->List Nat)(k:Nat):∀(m:Nat)(L:List (List Nat)),eo w k (m+1) L=(eo w k m L).flatMap λr=>(qc k r (w r.length)).map λd=>r++ [d]
 |0,L=>by simp[eo]
 |m+1,L=>by
  rw[eo,vN w k m,eo]
def mH(w:Nat->List Nat)(k p:Nat):List (List Nat):=eo w k p [[]]
theorem rE(w:Nat->List Nat)(k p:Nat):mH w k (p+1)=(mH w k p).flatMap λr=>(qc k r (w r.length)).map λd=>r++ [d]:=vN w k p _
theorem uN(w:Nat->List Nat)(k:Nat):∀p,∀r∈mH w k p,r.length=p
 |0,r,h=>by
  have:r= []:=by simpa [mH,eo] using h
  rw[this];rfl
 |p+1,r,h=>by
  rw[rE] at h;obtain⟨x,hx,hr⟩:=oN.mp h;obtain⟨d,_,rfl⟩:=b8.mp hr;rw[cx,uN w k p x hx];rfl
end Wy
namespace L2
open PySem PySem.Spec PyProof.Rows
section
variable {Z:DC} {X:Cx} {B:Bs} {md:List Nat} {rn:Nat} {ρ:DN} {σ:St} {H G:Hp} {fp:Nat->List Addr} {e k:Expr} {pos p2 apos aU:Pos} {tp te:bg} {t:gH}
def TN(t:gH):gH:=λρ P=>t ρ λa=>P [.lst a]
theorem Kw(ha:DF Z X 1 e t)(hs:starEach [e] X.env=(false,eval e X.env)::starEach [] X.env:=by rfl):DF Z X 2 (.List [e] pos) (TN t):=by
 refine(qy (cS ha fU hs)).imp ?_;intro σ H Q aJ;rfl';obtain⟨G,ρ,P,s,en,h,q⟩:=aJ;ac_rfl;refine⟨G,ρ,_,s,en,h,λl1 h1 v1 f1 G1 H1 x1 o1 CM vp=>⟨by show 1<=sizeLine;decide,λp hp=>?_⟩⟩
 have n1:∀b∈f1,b≠p:=λb hb z=>(vp b hb).2.1 (by rw[z];exact hp)
 refine q _ h1 (.ref p) (p::(f1++ [])) G1 _ (x1.side hp) (.inl ⟨p,[v1],_,_,rfl,rfl,av,rfl, .cons (o1.keep (.refl _) λb hb=>aw (n1 b hb)) .nil⟩) ?_ ?_
 ·rw[kP,eE]
  exact⟨λz=>n1 p z rfl,CM⟩
 ·intro b hb
  rw[kP] at hb
  rcases cm.mp hb with rfl|hb
  ·exact⟨x1.hh.free hp,(by rw[av];exact λz=>nomatch z),x1.sub.free hp⟩
  ·exact⟨(vp b hb).1,(by rw[aw (n1 b hb)];exact(vp b hb).2.1),(vp b hb).2.2⟩
theorem Hc(n:Nat):DF Z X (n+1) (.List [] pos) (Nx cZ):=by
 refine(qy fU).imp ?_;rintro σ H Q ⟨G,ρ,P,s,en,⟨_,hp⟩,q⟩;refine⟨by show 0<=sizeLine;decide,λp hn=>?_⟩
 refine q _ hp (.ref p) [p] G _ ((Ext.refl s).side hn) (.inl ⟨p,[],[],[],rfl,rfl,av,rfl, .nil⟩) (by simp) λb hb=>?_
 have:b=p:=by simpa using hb
 subst this;exact⟨hn,(by rw[av];exact λz=>nomatch z),s.free hn⟩
theorem SIx.VI{i:Nat}{v:V}{d':D}{b:Addr}{c:HO}{f':List Addr}(S:SIx Z B md ρ σ H G fp)(hi:σ[i]? =some (some v))(hb:b∈fp i)(o:Own Z G (upd H b c) (md.getD i 0) v d' f')(nd:f'.Nodup)(nw:∀x∈f',B.H₀ x=none/\H x≠none/\G x=none)(ap:∀x∈f',∀j,j≠i->x∉fp j):
  SIx Z B md (ρ.set i (some d')) σ (upd H b c) G (λj=>if j=i then f' else fp j) where
 ex:=by
  obtain⟨h1,h2,h3⟩:=S.nw i b hb;exact⟨S.ex.gg,λx u e=>by rw[aw (aR e h3)];exact S.ex.sub _ _ e,λx u e=>by rw[aw (aR e h1)];exact S.ex.hh _ _ e,S.ex.off⟩
 fl:=S.fl
 len:=by rw[dB];exact S.len
 at_:=λj w h=>by
  by_cases z:i=j
  ·subst z
   by_cases hl:i<ρ.length
   ·rw[iH hl] at h
    cases Option.some.inj h;exact⟨v,hi,by rw[if_pos rfl];exact o⟩
   ·rw[wd (gL hl),fi (gL hl)] at h;cases h
  ·rw[jv z] at h
   obtain⟨u,hu,ow⟩:=S.at_ j w h;exact⟨u,hu,by rw[if_neg (Ne.symm z)];exact ow.keep (.refl _) λx hx=>aw λq=>S.ap i j b z hb (by rw[<-q];exact hx)⟩
 nd:=λj=>by split;exact nd;exact S.nd j
 ap:=λj k b ne hj hk=>by
  split at hj
  ·next z=>
   rw[if_neg (λw=>ne (z.trans w.symm))] at hk;exact ap b hj k (λw=>ne (z.trans w.symm)) hk
  ·next z=>
   split at hk
   ·exact ap b hk j z hj
   ·exact S.ap j k b ne hj hk
 nw:=λj x hx=>by
  have go:B.H₀ x=none/\H x≠none/\G x=none:=by
   split at hx
   ·exact nw x hx
   ·exact S.nw j x hx
  refine⟨go.1,?_,go.2.2⟩
  by_cases z:x=b
  ·rw[z,av];exact λq=>nomatch q
  ·rw[aw z];exact go.2.1
def Kl(md:List Nat)(i:Nat)(t:gH):cN:=λE ρ=>∃jy,ρ[i]? =some (some (.lst jy))/\t (cJ md ρ) λl=>jy.length<sizeLine/\E.nx (ρ.set i (some (.lst (jy++ [.lst l]))))
theorem E3(i:Nat){x:Str}{px:Pos}(he:DF Z X 1 e t)(hm:md.getD i 0=2:=by rfl)(hi:X.N[i]? =some x:=by rfl)(hv:kT X.env.scope x:=by first|exact Or.inl rfl|exact Or.inr (Or.inl rfl) |exact Or.inr (Or.inr rfl))(hd:(x==("__debug__":Str))=false:=by decide)(dG:(x==("__classdict__":Str))=false:=by decide)
  (fq:attributeBase (.Name x px) "append" X.env (eval (.Name x px) X.env)=eval (.Name x px) X.env:=by rfl)
  (ku:((backTo aU (starEach [e] X.env)).all (λx=>!x.1)&&(backToKw aU (keywordEach [] X.env)).all (λx=>x.1.isSome)&&decide (([e]:List Expr).length+([]:List Keyword).length+(if ([]:List Keyword).isEmpty then 0 else 1)<30))=true:=by rfl)
  (eU:(apos.endLine==aU.line)=true:=by rfl) (hs:starEach [e] X.env=(false,eval e X.env)::starEach [] X.env:=by rfl) (fF:(backTo aU (starEach [] X.env)).any (·.1)=false:=by rfl)
  (jU:swapsWith (.Call (.Attribute (.Name x px) "append" apos) [e] [] aU) none pos.line X.env=pure false:=by rfl):
  DSt Z X md rn (.Expr (.Call (.Attribute (.Name x px) "append" apos) [e] [] aU) pos) (Kl md i t):=by
 refine(kG (zB PySem.F.plainAttrs_list PySem.F.slot_list_append PySem.F.type_list_append lg (pv i hi hv hd dG) (cS he fU hs) fq ku eU hs fF) jU).imp ?_;intro Dn σ H aJ;rfl';obtain⟨B,ρ,E,⟨G,fp,S⟩,⟨jy,h1,h⟩,M⟩:=aJ;ac_rfl;rfl';obtain⟨v0,ji,o⟩:=S.at_ i _ h1;rw[hm] at o;obtain⟨T,ys,Tx,dP,rfl,e0,hT,hf,ol⟩:=o.lst;cases e0;ac_rfl;refine⟨_,ji,ty_list hT,G,_,_,S.ex.sub,S.qf,h,?_⟩;rintro l ⟨hz,hn⟩ v f G' H' x ow nd nw;have S':=S.grow x;have hT':=x.hh _ _ hT
 have P4:∀b∈dP,H' b=H b:=λb hb=>by
  cases z:H b with
  |none=>exact absurd z (S.nw i b (by rw[hf];exact bP _ hb)).2.1
  |some o=>exact x.hh _ _ z
 have A3:=S.nd i;rw[hf] at A3;obtain⟨nT,Il⟩:=eE.mp A3
 have fT:T∉f:=λz=>by
  have:=(nw T z).1
  rw[hT] at this;cases this
 have ff:∀b∈dP,b∉f:=λb hb z=>(S.nw i b (by rw[hf];exact bP _ hb)).2.1 (nw b z).1
 have Yv:∀b,b≠T->upd H' T (.lst (ys++ [v])) b=H' b:=λb hb=>aw hb;refine⟨T,ys,v,rfl,rfl,hT',by rw[ol.length];exact hz,M.nx _ hn _ _ ⟨G',_,S'.VI (b:=T) (f':=T::(dP++f)) ji (by rw[hf];exact b6 ..) ?_ ?_ ?_ ?_⟩⟩
 ·rw[hm]
  refine .inl ⟨T,ys++ [v],_,dP++f,rfl,rfl,av,rfl,bT.snoc (ol.imp λv d g hb r=>r.keep x.gg λb q=>?_) (ow.keep (.refl _) λb hb=>Yv b λz=>fT (by rw[<-z];exact hb))⟩
  rw[Yv b λz=>nT (by rw[<-z];exact hb b q)]
  exact P4 b (hb b q)
 ·rw[eE,gF]
  exact⟨λz=>(fK.mp z).elim nT fT,Il,nd,λa ha b hb z=>ff a ha (by rw[z];exact hb)⟩
 ·intro b hb
  rcases cm.mp hb with rfl|hb
  ·exact S'.nw i b (by rw[hf];exact b6 ..)
  ·rcases fK.mp hb with hb|hb
   ·exact S'.nw i b (by rw[hf];exact bP _ hb)
   ·exact⟨S.ex.hh.free (nw b hb).1,(nw b hb).2⟩
 ·intro b hb j hj z
  have go:b∈fp i\/b∈f:=by
   rw[hf]
   rcases cm.mp hb with rfl|hb
   ·exact .inl (b6 ..)
   ·exact(fK.mp hb).imp (bP _) id
  rcases go with go|go
  ·exact S.ap j i b hj z go
  ·exact(S.nw j b z).2.1 (nw b go).1
theorem x9{H:Hp}:∀{ys:List V}{L:List (List Nat)}{dP:List Addr},bT (Own Z G H 1) ys (L.map ar) dP->∃A:List (Addr×List Nat),ys=A.map (λe=>V.ref e.1)/\A.map (·.2)=L/\N4 H A/\dP=A.map (·.1)
 |_,[],_, .nil=>⟨[],rfl,rfl,(λp hp=>by cases hp),rfl⟩
 |_,r::L,_, .cons a as=>by
  rfl';obtain⟨A,h1,h2,h3,h4⟩:=x9 as;obtain⟨p,xs,ds,dP,rfl,e,ha,hf,ol⟩:=a.one;obtain⟨dv,rfl⟩:=ol.flat;have e:(r.map af)=ds:=by cases e;rfl
  subst e;ac_rfl
  have hx:xs=(mr r).map V.int:=by
   have e:r.map af=(mr r).map D.int:=by unfold mr;rw[eF];rfl
   rw[e] at dv;exact uL dv
  rw[hx] at ha;refine⟨(p,r)::A,by rw[h1];rfl,by rw[<-h2];rfl,λq hq=>?_,by rw[hf,h4];rfl⟩
  rcases cm.mp hq with rfl|hq
  ·exact ha
  ·exact h3 q hq
theorem yh{H:Hp}:∀{A:List (Addr×List Nat)},N4 H A->bT (Own Z G H 1) (A.map λe=>V.ref e.1) ((A.map (·.2)).map ar) (A.map (·.1))
 | [],_=> .nil
 |x::A,h=>by
  have e:(x.2.map af)=(mr x.2).map D.int:=by unfold mr;rw[eF];rfl
  refine bT.cons (f:= [x.1]) (.inl ⟨x.1,_,_,[],rfl,rfl,h x (b6 ..),rfl,?_⟩) (yh λp hp=>h p (bP _ hp));rw[e];exact(DvAll.ints _).own
end
section
variable {X:Cx}
theorem Ll(L:List (Addr×List Nat)):KS.Ord λi j=>HT.lexLt (mr (L.getD i (0,[])).2) (mr (L.getD j (0,[])).2) where
 irr:=λi=>AW _
 tr:=λi j k h h'=>zh _ _ _ h h'
 neg:=λi j k h=>H0 _ _ _ h
theorem tB(hu:X.A.units+64<cLine):eM X (.builtin "sorted") (λxs H Q=>∃(p:Addr)(L:List (Addr×List Nat)),xs= [.ref p]/\bU X.K H p (L.map λe=>V.ref e.1)/\N4 H L/\L.length<64/\
  ∀(q:Addr)(M:List (Addr×List Nat)),H q=none->M.Perm L->(M.map (·.2)).Pairwise kC->Q (.ref q) (upd H q (.lst (M.map λe=>V.ref e.1)))):=by
 intro pins s σ H xs us Q I rv h;rfl';obtain⟨p,L,rfl,hp,hL,hz,q⟩:=h;obtain⟨u,rfl,ru⟩:=rv.one;subst ru;obtain⟨its,r,pl,_⟩:=I.list hp;have hl:=r.length;rw[aG] at hl;have eU:64<=sizeLine:=by decide
 ac_rfl
 have ei:its=L.map λe=>Value.ref e.1:=by
  have:=pK (as:=L.map (·.1)) (us:=its) (by rw[eF];exact r)
  rw[this,eF];rfl
 by_cases h2:L.length<2
 ·refine KS.oH pl.isList (by omega) ?_
  obtain⟨e,he⟩:=sortedAll_at s.heap its its.toArray;have fr:H (s.heap.objs.size+1)=none:=I.hok.fresh (rb _);refine⟨.ref (s.heap.objs.size+1),_,I.laid (t':=s.toks) (λb o hb=>sortedAll_old hb) (rb _) (o:= .lst (L.map λe=>V.ref e.1)) ⟨by rw[aG];omega,its,e,r,he⟩,rfl,q _ L fr (.refl _) ?_⟩
  match L,h2 with
  | [],_=>exact .nil
  | [_],_=>exact List.pairwise_singleton _ _
 ·obtain⟨m,F⟩:=I.fr
  have N:=xW (g:=X.base) (h:=s.heap) (L:=X.env.locals);have nL:∀b u,H b=some u->b≠X.env.locals:=λb u e z=>by rw[z,I.free] at e;cases e
  refine PySem.W.kas_sorted (T:= .type "list") F N pl.isList (by omega) (by omega) (λh1 F1 N1 v hv=>?_) (by decide) λD e1 h' F' N' hD=>?_
  ·rw[ei] at hv
   rfl';obtain⟨e,he,rfl⟩:=b8.mp hv;obtain⟨U5,r2,p2,_⟩:=I.list (bU.of (hL e he));obtain⟨o,ho,hc,_⟩:=p2.isList;ac_rfl
   have y9:h1.get? e.1=some o:=by
    cases qb:X.base.get? e.1 with
    |some u=>
     have:=I.bk e.1 u qb
     rw[ho] at this;cases this;exact F1.keep _ _ qb
    |none=>exact(N1 (e.1,o) (eV (nL _ _ (hL e he)) qb ho)).1
   rw[<-hc];exact(PySem.W.Looks.ld y9).andThen .now
  have kept:∀b o,b≠X.env.locals->s.heap.get? b=some o->h'.get? b=some o:=λb o hb e=>by
   cases qb:X.base.get? b with
   |some u=>
    have:=I.bk b u qb
    rw[e] at this;cases this;exact F'.keep b _ qb
   |none=>exact(N' (b,o) (bP _ (eV hb qb e))).1
  have CI:∀i,i<L.length->∃items:Array Value,its.getD i Value.none= .ref (L.getD i (0,[])).1/\h'.IsList (L.getD i (0,[])).1 items/\IntsAre items.toList (mr (L.getD i (0,[])).2):=λi hi=>by
   have hm:L.getD i (0,[])∈L:=by
    rw[aV,bO hi];exact wq hi
   rfl';obtain⟨U5,r2,p2,_⟩:=I.list (bU.of (hL _ hm));obtain⟨o,ho,hc,n,hd⟩:=p2.isList;ac_rfl;refine⟨U5.toArray,?_,⟨o,kept _ _ (nL _ _ (hL _ hm)) ho,hc,n,hd⟩,by simpa using intsAre_of r2⟩
   rw[ei,aV,cA,aV,bO hi];rfl
  have hn:its.length=L.length:=by omega
  rw[hn];rfl';obtain⟨π,O5,pp,ps⟩:=KS.Bo (Ll L) (n:=L.length) (by omega)
  ac_rfl;refine KS.DD (lt:=λi j=>HT.lexLt (mr (L.getD i (0,[])).2) (mr (L.getD j (0,[])).2)) (n:=L.length) (λi j C hi hj hC=>?_) _ (KS.yr (by omega)) ?_
  ·obtain⟨i1,g1,l1,n1⟩:=CI i hi
   obtain⟨i2,g2,l2,n2⟩:=CI j hj;unfold PySem.W.kas_ask;rw[g1,g2,keyLt'_oneType];exact A7 l1 l2 n1 n2 (by rw[Around.in1_units,Around.in1_units];omega) hC
  ·show PySem.W.KasFin _ _ _ _ _ _ _ _
   rw[O5];refine PySem.W.KasFin.intro F' N' (.head λp hp=>dD (hD p hp)) λh2 c F2 N2=>?_
   have Cw:∀b o,b≠X.env.locals->s.heap.get? b=some o->h2.get? b=some o:=λb o hb e=>by
    cases qb:X.base.get? b with
    |some u=>
     have:=I.bk b u qb
     rw[e] at this;cases this;exact F2.keep b _ qb
    |none=>exact(N2 (b,o) (bP _ (eV hb qb e))).1
   obtain⟨_,Hv,Ph⟩:=N' (D,seqObj "list" #[] e1) b6
   have Hx:s.heap.get? D=none:=by
    cases qd:s.heap.get? D with
    |none=>rfl
    |some o=>exact absurd (hD (D,o) (eV Hv Ph qd)) (fz _)
   have Hu:H D=none:=by
    cases qd:H D with
    |none=>rfl
    |some o=>exact absurd Hv (λ_=>by
      obtain⟨o',g7⟩:=Es (I.hok D o qd);rw[Hx] at g7;cases g7)
   have Qb:∀m',s.heap.Ns X.env.locals m'->h2.Ns X.env.locals m':=λm' og=>by
    rw[og.eq_nsMap,<-F.ns.eq_nsMap];exact F2.ns
   have Hz:(π.toList.map λi=>L.getD i (0,[])).Perm L:=uY pp;have Hw:=(N2 (D,_) b6).1;refine⟨.ref D,_,I.HX (t':=s.toks) Cw Qb Hx Hu (o:= .lst ((π.toList.map λi=>L.getD i (0,[])).map λe=>V.ref e.1)) ⟨by rw[aG,Hz.length_eq];omega,(π.toList.map λi=>its.getD i Value.none),c,?_,Hw⟩,rfl,q D _ Hu Hz ?_⟩
   ·have e:(π.toList.map λi=>its.getD i Value.none)=((π.toList.map λi=>L.getD i (0,[])).map (·.1)).map Value.ref:=by
     rw[eF,eF];refine List.map_congr_left λi hi=>?_;obtain⟨_,g,_,_⟩:=CI i (cT.mp (pp.mem_iff.mp hi));exact g
    rw[e,show(λe:Addr×List Nat=>V.ref e.1)=V.ref∘(·.1) from rfl,<-eF];exact pF _
   ·rw[eF,lZ]
    exact ps.imp λhle=>hle
end
section
variable {Z:DC} {X:Cx} {B:Bs} {md:List Nat} {rn:Nat} {ρ:DN} {σ:St} {H G:Hp} {fp:Nat->List Addr} {e k:Expr} {pos p2 apos aU:Pos} {tp te:bg} {t:gH}
def EZ(i:Nat):cN:=λE ρ=>∃L:List (List Nat),ρ[i]? =some (some (.lst (L.map ar)))/\L.length<64/\∀M:List (List Nat),M.Perm L->M.Pairwise kC->E.rt (.lst (M.map ar))
theorem Ap(i:Nat){x:Str}{px p:Pos}(hu:X.A.units+64<cLine)(hg:Gl X "sorted")(y6:X.mg "sorted"=none)(hm:md.getD i 0=2:=by rfl)(hi:X.N[i]? =some x:=by rfl)(hv:kT X.env.scope x:=by first|exact Or.inl rfl|exact Or.inr (Or.inl rfl) |exact Or.inr (Or.inr rfl))(hd:(x==("__debug__":Str))=false:=by decide)(dG:(x==("__classdict__":Str))=false:=by decide)
  (hs:starEach [.Name x px] X.env=(false,eval (.Name x px) X.env)::starEach [] X.env:=by rfl) (eG:(backTo aU (starEach [] X.env)).any (·.1)=false:=by rfl):DSt Z X md 2 (.Return (some (.Call (.Name "sorted" p) [.Name x px] [] aU)) pos) (EZ i):=by
 refine(qC (rV (tB hu) hg y6 oP (cS (pv i hi hv hd dG) fU hs) (by decide) (by decide) hs eG)).imp ?_
 intro Dn σ H aJ;rfl';obtain⟨B,ρ,E,⟨G,fp,S⟩,⟨L,h1,hz,h⟩,M⟩:=aJ;ac_rfl;rfl';obtain⟨v0,ji,o⟩:=S.at_ i _ h1;rw[hm] at o;obtain⟨T,ys,Tx,dP,rfl,e0,hT,hf,ol⟩:=o.lst;cases e0;obtain⟨A,rfl,T3,T4,T5⟩:=x9 ol;have A3:=S.nd i;rw[hf] at A3;have hl:A.length=L.length:=by rw[<-T3];simp
 ac_rfl;refine⟨_,ji,T,A,rfl,bU.of hT,T4,by omega,λq N hn pm zH=>?_⟩
 have Qc:=S.nw i;rw[hf] at Qc;have mem:∀b,b∈N.map (·.1)->b∈dP:=λb hb=>by rw[T5];exact(pm.map _).mem_iff.mp hb
 have ne:∀b,b∈N.map (·.1)->b≠q:=λb hb z=>(Qc b (bP _ (mem b hb))).2.1 (by rw[z];exact hn)
 refine M.rt _ (h (N.map (·.2)) (by rw[<-T3];exact pm.map _) zH) (.ref q) (q::N.map (·.1)) G _ (S.ex.side hn) (.inl ⟨q,_,_,_,rfl,rfl,av,rfl,yh λp hp=>?_⟩) ?_ ?_
 ·rw[aw (ne p.1 (b8.mpr ⟨p,hp,rfl⟩))]
  exact T4 p (pm.mem_iff.mp hp)
 ·rw[eE]
  refine⟨λz=>ne q z rfl,((pm.map _).nodup_iff).mpr ?_⟩;rw[<-T5];exact(eE.mp A3).2
 ·intro b hb
  rcases cm.mp hb with rfl|hb
  ·exact⟨S.ex.hh.free hn,(by rw[av];exact λz=>nomatch z),S.ex.sub.free hn⟩
  ·obtain⟨k1,k2,k3⟩:=Qc b (bP _ (mem b hb))
   exact⟨k1,(by rw[aw (ne b hb)];exact k2),k3⟩
end
section
variable {Z:DC} {X:Cx}
def GJ:b9:=λds P=>∃ns:List (Nat×Nat),ds= [.lst (ns.map pairD)]/\ns.length<64/\∀ms:List (Nat×Nat),ms.Perm ns->ms.Pairwise Wb.lexLe->P (.lst (ms.map pairD))
theorem uA(hu:X.A.units+64<cLine):eM X (.builtin "sorted") (lb Z GJ):=by
 refine(wF hu).imp ?_;rintro xs H Q ⟨G,ds,P,s,dv,⟨ns,rfl,hl,hp⟩,q⟩;cases dv with
 |cons a as=>
  cases as;cases a with
  | @lst p gW ds h e=>
   obtain⟨L,rfl,h2,h3⟩:=xp e;have hL:L.length=ns.length:=by rw[<-h2];simp
   refine⟨_,L,rfl,bU.of (s _ _ h),λp hp=>s _ _ (h3 p hp),by omega,λp M hn m1 m2=>?_⟩
   have pm:(M.map (·.2)).Perm ns:=by rw[<-h2];exact m1.map _
   have hM:EN (upd G p (.lst (M.map λe=>V.ref e.1))) M:=λx hx=>aW (s.free hn) _ _ _ (h3 x (m1.mem_iff.mp hx));exact q _ (hp _ pm m2) _ _ _ (.new s hn) (.lst av hM.dv)
end
end L2
namespace Wb
def jR(w:W)(d:Nat×Nat)(r:List (Nat×Nat)):Prop:=∃k,0<k/\fP w k d=d/\(∀j,0<j->j<k->fP w j d≠d)/\r=walk w d k
theorem kD{w:W}{d e:Nat×Nat}{k:Nat}:e∈walk w d k↔∃i,i<k/\e=fP w i d:=by
 unfold walk;rw[b8]
 constructor
 ·rintro⟨i,hi,rfl⟩;exact⟨i,cT.mp hi,rfl⟩
 ·rintro⟨i,hi,rfl⟩;exact⟨i,cT.mpr hi,rfl⟩
theorem jR.first{w:W}{d:Nat×Nat}{r:List (Nat×Nat)}(h:jR w d r):d∈r:=by
 obtain⟨k,h0,_,_,rfl⟩:=h;exact kD.mpr ⟨0,h0,rfl⟩
theorem jR.next{w:W}{d e:Nat×Nat}{r:List (Nat×Nat)}(h:jR w d r)(he:e∈r):bD w e∈r:=by
 obtain⟨k,h0,h1,_,rfl⟩:=h;obtain⟨i,hi,rfl⟩:=kD.mp he
 by_cases c:i+1<k
 ·exact kD.mpr ⟨i+1,c,rfl⟩
 ·have:i+1=k:=by omega
  refine kD.mpr ⟨0,h0,?_⟩;show fP w (i+1) d=d;rw[this];exact h1
theorem jR.iter{w:W}{d e:Nat×Nat}{r:List (Nat×Nat)}(h:jR w d r)(he:e∈r):∀n,fP w n e∈r
 |0=>he
 |n+1=>h.next (h.iter he n)
theorem jR.back{w:W}{d e:Nat×Nat}{r:List (Nat×Nat)}(h:jR w d r)(he:e∈r):∃n,fP w n e=d:=by
 obtain⟨k,h0,h1,_,rfl⟩:=h;obtain⟨i,hi,rfl⟩:=kD.mp he;refine⟨k-i,?_⟩;rw[<-vc i (k-i),show k-i+i=k by omega]
 exact h1
theorem jR.nodup{w:W}(g:Good w){d:Nat×Nat}{r:List (Nat×Nat)}(h:jR w d r)(hd:bu w d):r.Nodup:=by
 obtain⟨k,h0,h1,h2,rfl⟩:=h;exact sV g hd h2
theorem jR.ba{w:W}(g:Good w){d:Nat×Nat}{r:List (Nat×Nat)}(h:jR w d r)(hd:bu w d):∀e∈r,bu w e:=by
 obtain⟨k,h0,h1,h2,rfl⟩:=h;exact v8 g hd
structure Wk (w:W) (ds:List (Nat×Nat)) (i:Nat) (rs:List (List (Nat×Nat))):Prop where
 rnd:∀r∈rs,∃d,jR w d r/\bu w d/\∀e∈r,lexLe d e
 nod:rs.flatten.Nodup
 met:∀j e,j<i->ds[j]? =some e->e∈rs.flatten
theorem Wk.zero(w:W)(ds:List (Nat×Nat)):Wk w ds 0 []:=⟨(λr h=>by cases h),ic,(λj e h=>by omega)⟩
theorem Wk.skip{w:W}{ds:List (Nat×Nat)}{i:Nat}{rs:List (List (Nat×Nat))}{d:Nat×Nat}(h:Wk w ds i rs)(hd:ds[i]? =some d)(hm:d∈rs.flatten):Wk w ds (i+1) rs:=
 ⟨h.rnd,h.nod,λj e hj he=>by
  by_cases c:j=i
  ·subst c;rw[hd] at he;cases he;exact hm
  ·exact h.met j e (by omega) he⟩
theorem Wk.take{w:W}(g:Good w){ds:List (Nat×Nat)}(all:∀e,bu w e->e∈ds)(D5:∀e∈ds,bu w e)(zH:ds.Pairwise lexLe){i:Nat}{rs:List (List (Nat×Nat))}{d:Nat×Nat}{r:List (Nat×Nat)}(h:Wk w ds i rs)(hd:ds[i]? =some d)(hm:d∉rs.flatten)(hr:jR w d r):Wk w ds (i+1) (rs++ [r]):=by
 have dd:bu w d:=D5 d (e9 hd)
 have off:∀e∈r,e∉rs.flatten:=λe he hf=>by
  obtain⟨r',wL,Ck⟩:=wu.mp hf;obtain⟨d',R',_,_⟩:=h.rnd r' wL;obtain⟨n,hn⟩:=hr.back he;exact hm (wu.mpr ⟨r',wL,by rw[<-hn];exact R'.iter Ck n⟩)
 refine⟨λr' h'=>?_,?_,λj e hj he=>?_⟩
 ·rcases fK.mp h' with z|z
  ·exact h.rnd r' z
  ·rw[jw.mp z]
   refine⟨d,hr,dd,λe he=>?_⟩;obtain⟨j,hj⟩:=sZ (all e (hr.ba g dd e he))
   by_cases c:j<i
   ·exact absurd (h.met j e c hj) (off e he)
   ·by_cases c2:j=i
    ·subst c2;rw[hd] at hj;cases hj
     exact .inr ⟨rfl,bC _⟩
    ·obtain⟨h1,e1⟩:=dE.mp hd
     obtain⟨h2,e2⟩:=dE.mp hj;rw[<-e1,<-e2];exact DL.mp zH i j h1 h2 (by omega)
 ·rw[zO,gF]
  refine⟨h.nod,by simpa using hr.nodup g dd,λa ha b hb e=>?_⟩
  subst e;exact off a (by simpa using hb) ha
 ·rw[zO,fK]
  by_cases c:j=i
  ·subst c;rw[hd] at he;cases he
   exact .inr (by simpa using hr.first)
  ·exact .inl (h.met j e (by omega) he)
theorem Wk.fin{w:W}(g:Good w){ds:List (Nat×Nat)}(all:∀e,bu w e->e∈ds){rs:List (List (Nat×Nat))}(h:Wk w ds ds.length rs):rs.flatten.Perm (ba w):=by
 have sub:∀e,e∈rs.flatten↔e∈ba w:=λe=>by
  rw[b7]
  constructor
  ·intro he
   obtain⟨r,hr,her⟩:=wu.mp he;obtain⟨d,R,dd,_⟩:=h.rnd r hr;exact R.ba g dd e her
  ·intro he
   obtain⟨j,hj⟩:=sZ (all e he);exact h.met j e (dE.mp hj).1 hj
 exact(yB h.nod (iL g)).mpr sub
structure bI (w:W) (rs:List (List (Nat×Nat))):Prop where
 rnd:∀r∈rs,∃d,jR w d r/\bu w d/\∀e∈r,lexLe d e
 perm:rs.flatten.Perm (ba w)
theorem bI.IA{w:W}{rs iw:List (List (Nat×Nat))}(R:bI w rs)(p:iw.Perm rs):bI w iw:=
 ⟨λr hr=>R.rnd r (p.mem_iff.mp hr),(p.flatten).trans R.perm⟩
theorem Aj{w:W}{d:Nat×Nat}(g:Good w)(h:bu w d):d.1≠d.2:=λe=>g.irr d.1 (by have:d.2∈row w d.1:=h;rw[<-e] at this;exact this)
theorem ux{w:W}(g:Good w){ts:List (Nat×Nat)}(pm:ts.Perm (iS (row w) w.length)):(ts++ts.map λt=>(t.2,t.1)).Perm (ba w):=by
 have e:=nF w;have nd:=iL g
 have m:∀t,t∈ts↔bu w t/\t.1<t.2:=λt=>by
  rw[pm.mem_iff,e,ib,b7,decide_eq_true_eq]
 have nt:ts.Nodup:=pm.nodup_iff.mpr (by rw[e];exact nd.filter _)
 refine(yB ?_ nd).mpr λd=>?_
 ·rw[gF]
  refine⟨nt,?_,λa ha b hb z=>?_⟩
  ·rw[DK,lZ]
   rw[DK] at nt;exact nt.imp λ {a b} h z=>h (Prod.ext (Prod.mk.inj z).2 (Prod.mk.inj z).1)
  ·obtain⟨c,hc,rfl⟩:=b8.mp hb
   have h1:=((m a).mp ha).2;have h2:=((m c).mp hc).2;rw[z] at h1;have h1:c.2<c.1:=h1;omega
 ·rw[fK,b8,b7]
  constructor
  ·rintro(h| ⟨c,hc,rfl⟩)
   ·exact((m d).mp h).1
   ·exact g.sym _ _ ((m c).mp hc).1
  ·intro h
   rcases Nat.lt_or_gt_of_ne (Aj g h) with c|c
   ·exact .inl ((m d).mpr ⟨h,c⟩)
   ·exact .inr ⟨(d.2,d.1),(m _).mpr ⟨g.sym _ _ h,c⟩,rfl⟩
theorem jR.uniq{w:W}{d:Nat×Nat}{r r':List (Nat×Nat)}(h:jR w d r)(h':jR w d r'):r=r':=by
 obtain⟨k,a1,a2,a3,rfl⟩:=h;obtain⟨m,b1,b2,b3,rfl⟩:=h'
 rcases Nat.lt_trichotomy k m with c|c|c
 ·exact absurd a2 (b3 k a1 c)
 ·rw[c]
 ·exact absurd b2 (a3 m b1 c)
theorem bI.sub{w:W}{rs iw:List (List (Nat×Nat))}(R:bI w rs)(R':bI w iw):∀r∈rs,r∈iw:=λr hr=>by
 obtain⟨d,h1,h2,h3⟩:=R.rnd r hr;have hd:d∈iw.flatten:=R'.perm.mem_iff.mpr (b7.mpr h2);obtain⟨r',wL,Uj⟩:=wu.mp hd;obtain⟨d',k1,k2,k3⟩:=R'.rnd r' wL;obtain⟨n,hn⟩:=k1.back Uj;have l1:lexLe d d':=by rw[<-hn];exact h3 _ (h1.iter h1.first n)
 have e:=xS l1 (k3 d Uj);subst e;rw[h1.uniq k1];exact wL
theorem bI.ne{w:W}{rs:List (List (Nat×Nat))}(R:bI w rs):∀r∈rs,r≠ []:=λr hr z=>by
 obtain⟨d,h1,_⟩:=R.rnd r hr
 have:=h1.first
 rw[z] at this;cases this
theorem sD{α:Type}:∀{l:List (List α)},l.flatten.Nodup->(∀r∈l,r≠ [])->l.Nodup
 | [],_,_=>ic
 |a::l,h,hn=>by
  rw[nN,gF] at h;refine eE.mpr ⟨λha=>?_,sD h.2.1 λr hr=>hn r (bP _ hr)⟩;cases a with
  |nil=>exact hn [] (b6 ..) rfl
  |cons x a=>exact h.2.2 x (b6 ..) x (wu.mpr ⟨_,ha,b6 ..⟩) rfl
theorem bI.nodup{w:W}{rs:List (List (Nat×Nat))}(g:Good w)(R:bI w rs):rs.Nodup:=sD (R.perm.nodup_iff.mpr (iL g)) R.ne
abbrev dX(rs:List (List (Nat×Nat))):List (List Nat):=rs.map λr=>r.map (·.1)
theorem CG{a b:List Nat}(h:L2.kC a b)(h':L2.kC b a):a=b:=by
 have:=L2.vf (L2.mr a) (L2.mr b) h' h
 exact L2.JT (by rw[this])
theorem bI.uniq{w:W}(g:Good w){rs iw:List (List (Nat×Nat))}(R:bI w rs)(R':bI w iw)(s:(dX rs).Pairwise L2.kC)(s':(dX iw).Pairwise L2.kC):dX rs=dX iw:=by
 have pm:rs.Perm iw:=(yB (R.nodup g) (R'.nodup g)).mpr λr=>⟨R.sub R' r,R'.sub R r⟩;exact List.Perm.eq_of_pairwise (λ_ _ _ _=>CG) s s' (pm.map _)
open Classical in
noncomputable def jW(w:W):List (List Nat):=if h:∃rs,bI w rs/\(dX rs).Pairwise L2.kC then dX h.choose else[]
theorem Ft{w:W}(g:Good w){rs:List (List (Nat×Nat))}(R:bI w rs)(s:(dX rs).Pairwise L2.kC):jW w=dX rs:=by
 have h:∃rs,bI w rs/\(dX rs).Pairwise L2.kC:=⟨rs,R,s⟩;unfold jW;rw[dif_pos h];exact h.choose_spec.1.uniq g R h.choose_spec.2 s
theorem fw{a b:List Nat}{x y:Nat}(nd:(a++x::y::b).Nodup):au (a++x::y::b) x=y:=by
 have hx:x∉a:=λh=>by
  have:=(gF.mp nd).2.2 x h x (b6 ..)
  exact this rfl
 have e:(a++x::y::b).idxOf x=a.length:=by
  rw[List.idxOf_append,if_neg hx,List.idxOf_cons_self];simp
 unfold au;rw[e,qW (by simp),aV,hU (by omega)]
 simp
theorem jN{b:List Nat}{x y:Nat}(nd:(y::(b++ [x])).Nodup):au (y::(b++ [x])) x=y:=by
 have hx:x∉y::b:=λh=>by
  have h2:(y::b++ [x]).Nodup:=nd;exact(gF.mp h2).2.2 x h x (by simp) rfl
 have e:(y::(b++ [x])).idxOf x=b.length+1:=by
  show(y::b++ [x]).idxOf x=_;rw[List.idxOf_append,if_neg hx];simp
 unfold au;rw[e]
 have:(b.length+1+1)%(y::(b++ [x])).length=0:=by simp
 rw[this];rfl
theorem vV{a b:List Nat}{x:Nat}(nd:(a++b).Nodup)(h:x∈a++b):au (b++a) x=au (a++b) x:=by
 have oh:(b++a).Nodup:=(List.perm_append_comm.nodup_iff).mp nd;obtain⟨u,v,e⟩:=List.append_of_mem h;cases v with
 |cons y v=>
  rw[e,fw (e▸nd)]
  rcases List.append_eq_append_iff.mp e with ⟨c,h1,h2⟩ | ⟨c,h1,h2⟩
  ·
   rw[h2,show c++x::y::v++a=c++x::y::(v++a) by simp]
   refine fw ?_;rw[h2] at oh;simpa using oh
  ·
   cases c with
   |nil=>
    have hb:b=x::y::v:=by simpa using h2.symm
    rw[hb,show x::y::v++a= []++x::y::(v++a) by simp]
    refine fw ?_;rw[hb] at oh;simpa using oh
   |cons z c=>
    have hz:x=z/\y::v=c++b:=by simpa using h2
    obtain⟨rfl,h3⟩:=hz;cases c with
    |nil=>
     have hb:b=y::v:=by simpa using h3.symm
     rw[h1,hb,show y::v++(u++ [x])=y::((v++u)++ [x]) by simp]
     refine jN ?_;rw[h1,hb] at oh;simpa using oh
    |cons z c=>
     have hz:y=z/\v=c++b:=by simpa using h3
     obtain⟨rfl,rfl⟩:=hz;rw[h1,show b++(u++x::y::c)=(b++u)++x::y::c by simp]
     refine fw ?_;rw[h1] at oh;simpa using oh
 |nil=>
  cases b with
  |nil=>simp
  |cons y b=>
   rcases List.eq_nil_or_concat b with rfl| ⟨b',z,rfl⟩
   ·
    have:a=u/\y=x:=by
     have:=List.append_inj' e rfl
     exact⟨this.1,by simpa using this.2⟩
    obtain⟨rfl,rfl⟩:=this;cases a with
    |nil=>rfl
    |cons t a=>
     have e1:au (t::a++ [y]) y=t:=jN (b:=a) nd;rw[e1];show au ([]++y::t::a) y=t;exact fw (oh)
   ·have hx:z=x:=by
     rw[List.concat_eq_append] at e;have e:(a++y::b')++ [z]=u++ [x]:=by simpa using e
     exact by simpa using(List.append_inj' e rfl).2
    subst hx;rw[List.concat_eq_append] at nd oh ⊢;cases a with
    |nil=>simp
    |cons t a=>
     have e1:au (t::a++y::(b'++ [z])) z=t:=by
      have:=jN (y:=t) (b:=a++y::b') (x:=z) (by simpa using nd)
      simpa using this
     have e2:au (y::(b'++ [z])++t::a) z=t:=by
      have:=fw (a:=y::b') (x:=z) (y:=t) (b:=a) (by simpa using oh)
      simpa using this
     rw[e1,e2]
theorem bA{l:List Nat}{i:Nat}(nd:l.Nodup)(h:i+1<l.length):au l (l.getD i 0)=l.getD (i+1) 0:=by
 have e:l.getD i 0=l[i]:=by rw[aV,bO (by omega)];rfl
 unfold au;rw[e,nd.idxOf_getElem i (by omega),qW h]
theorem ck{l:List Nat}{i:Nat}(nd:l.Nodup)(h:i+1=l.length):au l (l.getD i 0)=l.getD 0 0:=by
 have e:l.getD i 0=l[i]:=by rw[aV,bO (by omega)];rfl
 unfold au;rw[e,nd.idxOf_getElem i (by omega),h,Nat.mod_self]
section
variable {w:W} {R:List Nat} {A:Nat×Nat->Prop} {v m:Nat} {y:Nat->Nat}
end
theorem getD_inj{l:List Nat}(nd:l.Nodup){i j:Nat}(hi:i<l.length)(hj:j<l.length)(e:l.getD i 0=l.getD j 0):i=j:=by
 have ei:l.getD i 0=l[i]:=by rw[aV,bO hi];rfl
 have ej:l.getD j 0=l[j]:=by rw[aV,bO hj];rfl
 rw[ei,ej] at e;have h1:=nd.idxOf_getElem i hi;have h2:=nd.idxOf_getElem j hj;rw[e,h2] at h1;exact h1.symm
theorem br{l:List Nat}{i:Nat}(h:i<l.length):l.getD i 0∈l:=by
 rw[aV,bO h];exact wq h
section
variable {w:W} {R:List Nat} {A:Nat×Nat->Prop}
def kW(C:List Nat)(x y:Nat):Prop:=x∈C/\y=au C x
end
def par{α:Type}(f:α->Bool):List α->Bool
 | []=>false
 |x::l=>(f x).xor (par f l)
theorem qw{α:Type}(f:α->Bool):∀l m:List α,par f (l++m)=(par f l).xor (par f m)
 | [],m=>by simp[par]
 |x::l,m=>by rw[List.cons_append,par,par,qw f l m,Bool.xor_assoc]
theorem vI{α:Type}(f g:α->Bool):∀l:List α,par (λx=>(f x).xor (g x)) l=(par f l).xor (par g l)
 | []=>rfl
 |x::l=>by
  rw[par,par,par,vI f g l];cases f x<;>cases g x<;>cases par f l<;>cases par g l<;>rfl
theorem iZ{α:Type}{f:α->Bool}:∀{l:List α},(∀x∈l,f x=false)->par f l=false
 | [],_=>rfl
 |x::l,h=>by rw[par,h x (b6 ..),iZ λy hy=>h y (bP _ hy)];rfl
theorem pB{α:Type}{f g:α->Bool}:∀{l:List α},(∀x∈l,f x=g x)->par f l=par g l
 | [],_=>rfl
 |x::l,h=>by rw[par,par,h x (b6 ..),pB λy hy=>h y (bP _ hy)]
theorem vH{b:Bool}{a:Nat}:∀{l:List Nat},l.Nodup->a∈l->par (λx=>decide (x=a)&&b) l=b
 | [],_,h=>by cases h
 |x::l,nd,h=>by
  obtain⟨n1,n2⟩:=eE.mp nd;rw[par]
  by_cases e:x=a
  ·subst e
   rw[iZ λy hy=>by
    have:y≠x:=λz=>n1 (z▸hy)
    simp[this]]
   simp
  ·have:a∈l:=by
    rcases cm.mp h with z|z
    ·exact absurd z.symm e
    ·exact z
   rw[vH n2 this];simp[e]
theorem Ba{α:Type}(f:α->Bool):∀l:List α,par f l.reverse=par f l
 | []=>rfl
 |x::l=>by
  rw[List.reverse_cons,qw,Ba f l,par,par,par];cases f x<;>cases par f l<;>rfl
def QZ(w:W):Prop:=∀c:Nat->Nat->Bool,(∀x y,c x y=c y x)->(∀p,p<w.length->par (c p) (row w p)=false)->
 ∃S:Nat×Nat->Bool,(∀d,bu w d->S d=S (bD w d))/\∀x y,bu w (x,y)->(S (x,y)).xor (S (y,x))=c x y
open Classical in
structure cB (w:W) (R:List Nat):Prop where
 g:Good w
 nd:R.Nodup
 len:3<=R.length
 hd:∀x∈R,au R x∈row w x/\(row w x).getD 0 0=au R x
 ls:∀x∈R,(row w x).getD ((row w x).length-1) 0∈R/\au R ((row w x).getD ((row w x).length-1) 0)=x
 tri:∀x y,bu w (x,y)->¬kW R x y->bD w (bD w (bD w (x,y)))=(x,y)/\¬kW R (bD w (x,y)).1 (bD w (x,y)).2
 bnd:QZ w
theorem cB.Qw{w:W}{a b:List Nat}(G:cB w (a++b)):cB w (b++a):=by
 have mem:∀p,p∈b++a↔p∈a++b:=λp=>List.perm_append_comm.mem_iff;have s:∀p,p∈b++a->au (b++a) p=au (a++b) p:=λp h=>vV G.nd ((mem p).mp h)
 have ad:∀x y,kW (b++a) x y↔kW (a++b) x y:=λx y=>by
  constructor
  ·rintro⟨h,e⟩;exact⟨(mem x).mp h,by rw[e,s x h]⟩
  ·rintro⟨h,e⟩;exact⟨(mem x).mpr h,by rw[e,s x ((mem x).mpr h)]⟩
 refine⟨G.g,List.perm_append_comm.nodup_iff.mp G.nd,by have:=G.len;simp at this ⊢;omega,λx hx=>?_,λx hx=>?_,λx y hd n=>?_,G.bnd⟩
 ·rw[s x hx];exact G.hd x ((mem x).mp hx)
 ·have:=G.ls x ((mem x).mp hx)
  exact⟨(mem _).mpr this.1,by rw[s _ ((mem _).mpr this.1)];exact this.2⟩
 ·have:=G.tri x y hd (λz=>n ((ad x y).mpr z))
  exact⟨this.1,λz=>this.2 ((ad _ _).mp z)⟩
theorem cB.rK{w:W}{R:List Nat}(G:cB w R){x b:Nat}(hx:x∈R)(hb:b∈R)(e:au R b=x):(row w x).getD ((row w x).length-1) 0=b/\(row w x).length≠0:=by
 have:=G.ls x hx
 refine⟨lJ G.nd this.1 hb (by rw[this.2,e]),?_⟩
 have:=(G.hd x hx).1
 intro z;rw[BI.mp z] at this;cases this
theorem cB.outer{w:W}{R:List Nat}(G:cB w R){x y:Nat}(h:kW R x y):bD w (x,y)=(y,au R y):=by
 obtain⟨hx,rfl⟩:=h;have hy:=dJ hx;obtain⟨e,ne⟩:=G.rK hy hx rfl;show(_,au (row w (au R x)) x)=_;have e2:=ck (G.g.nod (au R x)) (i:=(row w (au R x)).length-1) (by omega)
 rw[e] at e2;rw[e2,(G.hd _ hy).2]
end Wb
set_option maxHeartbeats 1000000
namespace Wb
structure Step (w w':W) (R:List Nat) (f:Nat):Prop where
 l:w'.length=w.length+1
 f1:1<=f
 fn:f<R.length
 rv:row w' w.length=(R.take (f+1)).reverse
 r0:row w' (R.getD 0 0)=w.length::row w (R.getD 0 0)
 rk:∀k,1<=k->k<=f->row w' (R.getD k 0)=row w (R.getD k 0)++ [w.length]
 ro:∀x,x≠w.length->(∀k,k<=f->x≠R.getD k 0)->row w' x=row w x
def bY(R:List Nat)(f v:Nat):List Nat:=R.getD 0 0::v::R.drop f
theorem fc{R:List Nat}{f k:Nat}(h:f<R.length)(hk:k<=f):(R.take (f+1)).reverse.getD (f-k) 0=R.getD k 0:=by
 have l:(R.take (f+1)).length=f+1:=by rw[eD];omega
 rw[aV,List.getElem?_reverse (by omega),l,show f+1-1-(f-k)=k by omega,qT (by omega),<-aV]
theorem tV{l:List Nat}{v x:Nat}(nd:(v::l).Nodup)(hx:x∈l)(hl:x≠l.getD (l.length-1) 0):au (v::l) x=au l x:=by
 obtain⟨i,hi,rfl⟩:=jP.mp hx;have e:l[i]=l.getD i 0:=by rw[aV,bO hi];rfl
 have kZ:i+1<l.length:=by
  apply Classical.byContradiction;intro c;exact hl (by rw[e,show l.length-1=i by omega])
 have h1:=bA (i:=i+1) nd (by simp;omega)
 have h2:=bA (i:=i) (eE.mp nd).2 kZ;rw[qU,qU] at h1;rw[e,h1,h2]
theorem tW{l:List Nat}{v x:Nat}(nd:(l++ [v]).Nodup)(hx:x∈l)(hl:x≠l.getD (l.length-1) 0):au (l++ [v]) x=au l x:=by
 obtain⟨i,hi,rfl⟩:=jP.mp hx;have e:l[i]=l.getD i 0:=by rw[aV,bO hi];rfl
 have kZ:i+1<l.length:=by
  apply Classical.byContradiction;intro c;exact hl (by rw[e,show l.length-1=i by omega])
 have g:∀j,j<l.length->(l++ [v]).getD j 0=l.getD j 0:=λj hj=>by rw[aV,gk hj,<-aV]
 have h1:=bA (i:=i) nd (by simp;omega)
 have h2:=bA (i:=i) (gF.mp nd).1 kZ;rw[g i hi,g (i+1) kZ] at h1;rw[e,h1,h2]
section
variable {w w':W} {R:List Nat} {f:Nat}
theorem pJ(G:cB w R)(T:Step w w' R f):Good w':=by
 have g:=G.g;have fn:=T.fn;have zR:∀k,k<=f->R.getD k 0∈R:=λk h=>br (by omega)
 have zlt:∀k,k<=f->R.getD k 0<w.length:=λk h=>aI (G.hd _ (zR k h)).1
 have GD:∀x,x∈(R.take (f+1)).reverse↔∃k,k<=f/\x=R.getD k 0:=λx=>by
  rw[List.mem_reverse]
  constructor
  ·intro h
   obtain⟨i,hi,rfl⟩:=jP.mp h;rw[eD] at hi;exact⟨i,by omega,by rw[BM,aV,bO (by omega)];rfl⟩
  ·rintro⟨k,hk,rfl⟩
   refine jP.mpr ⟨k,by rw[eD];omega,?_⟩
   rw[BM,aV,bO (by omega)];rfl
 have mem:∀x,x≠w.length->∀y,y∈row w' x↔y∈row w x\/(y=w.length/\∃k,k<=f/\x=R.getD k 0):=λx hx y=>by
  by_cases c:∃k,k<=f/\x=R.getD k 0
  ·obtain⟨k,hk,rfl⟩:=c
   by_cases k0:k=0
   ·subst k0
    rw[T.r0,cm];exact⟨λh=>h.elim (λz=> .inr ⟨z,0,hk,rfl⟩) .inl,λh=>h.elim .inr (λz=> .inl z.1)⟩
   ·rw[T.rk k (by omega) hk,fK,jw]
    exact⟨λh=>h.elim .inl (λz=> .inr ⟨z,k,hk,rfl⟩),λh=>h.elim .inl (λz=> .inr z.1)⟩
  ·rw[T.ro x hx (λk hk z=>c ⟨k,hk,z⟩)]
   exact⟨.inl,λh=>h.elim id (λz=>absurd z.2 c)⟩
 have Em:∀y,y∈row w' w.length↔∃k,k<=f/\y=R.getD k 0:=λy=>by rw[T.rv];exact GD y
 have JW:∀x,w.length∉row w x:=λx h=>fz _ (g.rng _ _ h)
 have noR:∀x,x≠w.length->(row w' x).Nodup:=λx hx=>by
  by_cases c:∃k,k<=f/\x=R.getD k 0
  ·obtain⟨k,hk,rfl⟩:=c
   by_cases k0:k=0
   ·subst k0
    rw[T.r0];exact eE.mpr ⟨JW _,g.nod _⟩
   ·rw[T.rk k (by omega) hk]
    exact gF.mpr ⟨g.nod _,by simp,λa ha b hb e=>by
     have:b=w.length:=jw.mp hb
     rw[e,this] at ha;exact JW _ ha⟩
  ·rw[T.ro x hx (λk hk z=>c ⟨k,hk,z⟩)];exact g.nod x
 have up:∀x y,y∈row w x->y∈row w' x:=λx y h=>(mem x (by have:=aI h;omega) y).mpr (.inl h)
 have con:∀x,x<w.length->Reach w' 0 x:=λx hx=>(g.con x hx).mono up;refine⟨λx y h=>?_,λx h=>?_,λx=>?_,λx y h=>?_,λx hx=>?_⟩
 ·rw[T.l]
  by_cases c:x=w.length
  ·subst c
   obtain⟨k,hk,rfl⟩:=(Em y).mp h
   have:=zlt k hk;omega
  ·rcases(mem x c y).mp h with h| ⟨h,_⟩
   ·have:=g.rng _ _ h;omega
   ·omega
 ·by_cases c:x=w.length
  ·subst c
   obtain⟨k,hk,e⟩:=(Em _).mp h
   have:=zlt k hk;omega
  ·rcases(mem x c x).mp h with h| ⟨h,_⟩
   ·exact g.irr x h
   ·exact c h
 ·by_cases c:x=w.length
  ·subst c
   rw[T.rv];exact(List.reverse_perm _).nodup_iff.mpr (G.nd.sublist (List.take_sublist _ _))
  ·exact noR x c
 ·by_cases c:x=w.length
  ·subst c
   obtain⟨k,hk,rfl⟩:=(Em y).mp h;exact(mem _ (by have:=zlt k hk;omega) _).mpr (.inr ⟨rfl,k,hk,rfl⟩)
  ·rcases(mem x c y).mp h with h| ⟨rfl,k,hk,rfl⟩
   ·exact up _ _ (g.sym _ _ h)
   ·exact(Em _).mpr ⟨k,hk,rfl⟩
 ·rw[T.l] at hx
  by_cases c:x=w.length
  ·subst c
   exact .step (con _ (zlt 0 (cM _))) ((mem _ (by have:=zlt 0 (cM _);omega) _).mpr (.inr ⟨rfl,0,cM _,rfl⟩))
  ·exact con x (by omega)
structure SF (w w':W) (R:List Nat) (f:Nat):Prop where
 z:∀k,k<R.length->R.getD k 0∈R
 zlt:∀k,k<R.length->R.getD k 0<w.length
 inj:∀i j,i<R.length->j<R.length->R.getD i 0=R.getD j 0->i=j
 dv:∀y,bu w' (w.length,y)↔∃k,k<=f/\y=R.getD k 0
 dx:∀x,x≠w.length->∀y,bu w' (x,y)↔bu w (x,y)\/(y=w.length/\∃k,k<=f/\x=R.getD k 0)
 n1:∀x y,bu w (x,y)->¬kW R x y->bD w' (x,y)=bD w (x,y)
 n1o:∀i,f<=i->i+1<R.length->bD w' (R.getD i 0,R.getD (i+1) 0)=(R.getD (i+1) 0,au R (R.getD (i+1) 0))
 n1e:bD w' (R.getD (R.length-1) 0,R.getD 0 0)=(R.getD 0 0,w.length)
 n2:∀k,k<f->bD w' (R.getD k 0,R.getD (k+1) 0)=(R.getD (k+1) 0,w.length)
 n3:∀k,k<f->bD w' (R.getD (k+1) 0,w.length)=(w.length,R.getD k 0)
 n3e:bD w' (R.getD 0 0,w.length)=(w.length,R.getD f 0)
 n4:∀k,k<=f->bD w' (w.length,R.getD k 0)=(R.getD k 0,au R (R.getD k 0))
theorem nE(G:cB w R)(T:Step w w' R f):SF w w' R f:=by
 have g:=G.g;have g':=pJ G T;have fn:=T.fn;have f1:=T.f1;have zR:∀k,k<R.length->R.getD k 0∈R:=λk h=>br h;have zlt:∀k,k<R.length->R.getD k 0<w.length:=λk h=>aI (G.hd _ (zR k h)).1;have inj:∀i j,i<R.length->j<R.length->R.getD i 0=R.getD j 0->i=j:=λi j hi hj e=>getD_inj G.nd hi hj e;have JW:∀x,w.length∉row w x:=λx h=>fz _ (g.rng _ _ h);have sx:∀i,i+1<R.length->au R (R.getD i 0)=R.getD (i+1) 0:=λi h=>bA G.nd h;have se:au R (R.getD (R.length-1) 0)=R.getD 0 0:=ck G.nd (by omega)
 have GD:∀x,x∈(R.take (f+1)).reverse↔∃k,k<=f/\x=R.getD k 0:=λx=>by
  rw[List.mem_reverse]
  constructor
  ·intro h
   obtain⟨i,hi,rfl⟩:=jP.mp h;rw[eD] at hi;exact⟨i,by omega,by rw[BM,aV,bO (by omega)];rfl⟩
  ·rintro⟨k,hk,rfl⟩
   refine jP.mpr ⟨k,by rw[eD];omega,?_⟩
   rw[BM,aV,bO (by omega)];rfl
 have dx:∀x,x≠w.length->∀y,bu w' (x,y)↔bu w (x,y)\/(y=w.length/\∃k,k<=f/\x=R.getD k 0):=λx hx y=>by
  show y∈row w' x↔y∈row w x\/_
  by_cases c:∃k,k<=f/\x=R.getD k 0
  ·obtain⟨k,hk,rfl⟩:=c
   by_cases k0:k=0
   ·subst k0
    rw[T.r0,cm];exact⟨λh=>h.elim (λz=> .inr ⟨z,0,hk,rfl⟩) .inl,λh=>h.elim .inr (λz=> .inl z.1)⟩
   ·rw[T.rk k (by omega) hk,fK,jw]
    exact⟨λh=>h.elim .inl (λz=> .inr ⟨z,k,hk,rfl⟩),λh=>h.elim .inl (λz=> .inr z.1)⟩
  ·rw[T.ro x hx (λk hk z=>c ⟨k,hk,z⟩)]
   exact⟨.inl,λh=>h.elim id (λz=>absurd z.2 c)⟩
 have NJ:∀k,k<R.length->(row w (R.getD k 0)).length≠0:=λk hk z=>by
  have:=(G.hd _ (zR k hk)).1
  rw[BI.mp z] at this;cases this
 have s0:∀x,x∈row w (R.getD 0 0)->x≠(row w (R.getD 0 0)).getD ((row w (R.getD 0 0)).length-1) 0->au (row w' (R.getD 0 0)) x=au (row w (R.getD 0 0)) x:=λx h1 h2=>by
  rw[T.r0];exact tV (by rw[<-T.r0];exact g'.nod _) h1 h2
 have sk:∀k,1<=k->k<=f->∀x,x∈row w (R.getD k 0)->x≠(row w (R.getD k 0)).getD ((row w (R.getD k 0)).length-1) 0->au (row w' (R.getD k 0)) x=au (row w (R.getD k 0)) x:=λk h1 h2 x h3 h4=>by
  rw[T.rk k h1 h2];exact tW (by rw[<-T.rk k h1 h2];exact g'.nod _) h3 h4
 have lastOf:∀y∈R,∀x,x=(row w y).getD ((row w y).length-1) 0->kW R x y:=λy hy x e=>by
  have:=G.ls y hy
  rw[<-e] at this;exact⟨this.1,this.2.symm⟩
 have Mb:∀k,1<=k->k<=f->au (row w' (R.getD k 0)) ((row w (R.getD k 0)).getD ((row w (R.getD k 0)).length-1) 0)=w.length:=λk h1 h2=>by
  have nd:=g'.nod (R.getD k 0);have ln:=NJ k (by omega)
  rw[T.rk k h1 h2] at nd ⊢;have h:=bA (i:=(row w (R.getD k 0)).length-1) nd (by rw[cx,wj];omega)
  have e1:(row w (R.getD k 0)++ [w.length]).getD ((row w (R.getD k 0)).length-1) 0=(row w (R.getD k 0)).getD ((row w (R.getD k 0)).length-1) 0:=by
   rw[aV,gk (by omega),<-aV]
  have e2:(row w (R.getD k 0)++ [w.length]).getD ((row w (R.getD k 0)).length-1+1) 0=w.length:=by
   rw[aV,hU (by omega),show(row w (R.getD k 0)).length-1+1-(row w (R.getD k 0)).length=0 by omega];rfl
  rw[e1,e2] at h;exact h
 refine⟨zR,zlt,inj,λy=>by show y∈row w' w.length↔_;rw[T.rv];exact GD y,dx,λx y hd n=>?_,λi h1 h2=>?_,?_,λk hk=>?_,λk hk=>?_,?_,λk hk=>?_⟩
 ·
  show(y,au (row w' y) x)=(y,au (row w y) x);have xy:x∈row w y:=g.sym _ _ hd
  by_cases c:∃k,k<=f/\y=R.getD k 0
  ·obtain⟨k,hk,rfl⟩:=c
   have nl:x≠(row w (R.getD k 0)).getD ((row w (R.getD k 0)).length-1) 0:=λe=>n (lastOf _ (zR k (by omega)) x e)
   by_cases k0:k=0
   ·subst k0;rw[s0 x xy nl]
   ·rw[sk k (by omega) hk x xy nl]
  ·rw[T.ro y (by have:=g.rng _ _ hd;omega) (λk hk z=>c ⟨k,hk,z⟩)]
 ·
  have hm:=zR (i+1) h2;obtain⟨e,ne⟩:=G.rK hm (zR i (by omega)) (sx i h2)
  show(_,au (row w' (R.getD (i+1) 0)) (R.getD i 0))=_;rw[T.ro _ (by have:=zlt (i+1) h2;omega) (λk hk z=>by have:=inj _ _ h2 (by omega) z;omega)]
  have e2:=ck (g.nod (R.getD (i+1) 0)) (i:=(row w (R.getD (i+1) 0)).length-1) (by omega)
  rw[e] at e2;rw[e2,(G.hd _ hm).2]
 ·
  have hm:=zR 0 (by omega)
  obtain⟨e,ne⟩:=G.rK hm (zR (R.length-1) (by omega)) se
  show(_,au (row w' (R.getD 0 0)) (R.getD (R.length-1) 0))=_;rw[T.r0];have nd:=g'.nod (R.getD 0 0);rw[T.r0] at nd;have e2:=ck nd (i:=(row w (R.getD 0 0)).length) (by simp)
  have e3:(w.length::row w (R.getD 0 0)).getD (row w (R.getD 0 0)).length 0=R.getD (R.length-1) 0:=by
   rw[<-e,show(row w (R.getD 0 0)).length=(row w (R.getD 0 0)).length-1+1 by omega,qU];simp
  rw[e3] at e2;rw[e2];rfl
 ·
  have hm:=zR (k+1) (by omega)
  obtain⟨e,ne⟩:=G.rK hm (zR k (by omega)) (sx k (by omega))
  show(_,au (row w' (R.getD (k+1) 0)) (R.getD k 0))=_
  have:=Mb (k+1) (by omega) (by omega)
  rw[e] at this;rw[this]
 ·
  show(_,au (row w' w.length) (R.getD (k+1) 0))=_;have nd:=g'.nod w.length;rw[T.rv] at nd ⊢;have l:(R.take (f+1)).reverse.length=f+1:=by rw[wk,eD];omega
  have h:=bA (i:=f-(k+1)) nd (by omega)
  rw[fc fn (by omega),show f-(k+1)+1=f-k by omega,fc fn (by omega)] at h
  rw[h]
 ·
  show(_,au (row w' w.length) (R.getD 0 0))=_;have nd:=g'.nod w.length;rw[T.rv] at nd ⊢;have l:(R.take (f+1)).reverse.length=f+1:=by rw[wk,eD];omega
  have h:=ck nd (i:=f) (by omega)
  have e0:=fc fn (cM f);have e1:=fc fn (bC f);rw[Nat.sub_zero] at e0;rw[kQ] at e1;rw[e0,e1] at h;rw[h]
 ·
  have hm:=zR k (by omega)
  show(_,au (row w' (R.getD k 0)) w.length)=_;have nd:=g'.nod (R.getD k 0);have ln:=NJ k (by omega)
  by_cases k0:k=0
  ·subst k0
   rw[T.r0] at nd ⊢;have h:=bA (i:=0) nd (by rw[cw];omega)
   rw[List.getD_cons_zero,qU,(G.hd _ hm).2] at h;rw[h]
  ·rw[T.rk k (by omega) hk] at nd ⊢
   have h:=ck nd (i:=(row w (R.getD k 0)).length) (by simp)
   have e1:(row w (R.getD k 0)++ [w.length]).getD (row w (R.getD k 0)).length 0=w.length:=by
    rw[aV,hU (bC _),kQ];rfl
   have e2:(row w (R.getD k 0)++ [w.length]).getD 0 0=(row w (R.getD k 0)).getD 0 0:=by
    rw[aV,gk (by omega),<-aV]
   rw[e1,e2,(G.hd _ hm).2] at h;rw[h]
end
end Wb
set_option maxHeartbeats 2000000
namespace Wb
section
variable {w w':W} {R:List Nat} {f:Nat}
structure Gx (w:W) (R:List Nat) (f:Nat):Prop where
 nd:(bY R f w.length).Nodup
 len:(bY R f w.length).length+f=R.length+2
 mem:∀x,x∈bY R f w.length↔x=R.getD 0 0\/x=w.length\/∃i,f<=i/\i<R.length/\x=R.getD i 0
 s0:au (bY R f w.length) (R.getD 0 0)=w.length
 sv:au (bY R f w.length) w.length=R.getD f 0
 si:∀i,f<=i->i<R.length->au (bY R f w.length) (R.getD i 0)=au R (R.getD i 0)
theorem lC(G:cB w R)(T:Step w w' R f):Gx w R f:=by
 have fn:=T.fn;have f1:=T.f1;have zR:∀k,k<R.length->R.getD k 0∈R:=λk h=>br h;have zlt:∀k,k<R.length->R.getD k 0<w.length:=λk h=>aI (G.hd _ (zR k h)).1;have inj:∀i j,i<R.length->j<R.length->R.getD i 0=R.getD j 0->i=j:=λi j hi hj e=>getD_inj G.nd hi hj e
 have dm:∀x,x∈R.drop f↔∃i,f<=i/\i<R.length/\x=R.getD i 0:=λx=>by
  constructor
  ·intro h
   obtain⟨i,hi,rfl⟩:=jP.mp h;rw[kN] at hi;exact⟨f+i,by omega,by omega,by rw[List.getElem_drop,aV,bO (by omega)];rfl⟩
  ·rintro⟨i,h1,h2,rfl⟩
   refine jP.mpr ⟨i-f,by rw[kN];omega,?_⟩
   rw[List.getElem_drop,aV,bO h2];simp only[show f+(i-f)=i by omega];rfl
 have nd:(bY R f w.length).Nodup:=by
  unfold bY;refine eE.mpr ⟨λh=>?_,eE.mpr ⟨λh=>?_,G.nd.sublist (List.drop_sublist _ _)⟩⟩
  ·rcases cm.mp h with h|h
   ·have:=zlt 0 (by omega);omega
   ·obtain⟨i,h1,h2,e⟩:=(dm _).mp h
    have:=inj 0 i (by omega) h2 e;omega
  ·obtain⟨i,h1,h2,e⟩:=(dm _).mp h
   have:=zlt i h2;omega
 have len:(bY R f w.length).length=R.length-f+2:=by unfold bY;simp
 have get:∀i,f<=i->i<R.length->(bY R f w.length).getD (i-f+2) 0=R.getD i 0:=λi h1 h2=>by
  unfold bY;rw[qU,qU,aV,BL,show f+(i-f)=i by omega,<-aV]
 have g0:(bY R f w.length).getD 0 0=R.getD 0 0:=rfl;have g1:(bY R f w.length).getD 1 0=w.length:=rfl;refine⟨nd,by omega,λx=>?_,?_,?_,λi h1 h2=>?_⟩
 ·unfold bY
  rw[cm,cm,dm]
 ·have:=bA nd (i:=0) (by omega)
  rw[g0] at this;exact this
 ·have:=bA nd (i:=1) (by omega)
  have e:=get f (bC _) fn;rw[kQ] at e;rw[g1] at this;rw[this];exact e
 ·by_cases c:i+1<R.length
  ·have:=bA nd (i:=i-f+2) (by omega)
   have e:=get (i+1) (by omega) c
   rw[get i h1 h2,show i-f+2+1=i+1-f+2 by omega,e] at this
   rw[this,bA G.nd c]
  ·have:=ck nd (i:=i-f+2) (by omega)
   rw[get i h1 h2,g0] at this;rw[this,ck G.nd (by omega)]
theorem Gx.kW(F:Gx w R f){x y:Nat}(h:kW (bY R f w.length) x y):(x=R.getD 0 0/\y=w.length)\/(x=w.length/\y=R.getD f 0)\/∃i,f<=i/\i<R.length/\x=R.getD i 0/\y=au R (R.getD i 0):=by
 obtain⟨hx,e⟩:=h
 rcases(F.mem x).mp hx with rfl|rfl| ⟨i,h1,h2,rfl⟩
 ·exact .inl ⟨rfl,by rw[e,F.s0]⟩
 ·exact .inr (.inl ⟨rfl,by rw[e,F.sv]⟩)
 ·exact .inr (.inr ⟨i,h1,h2,rfl,by rw[e,F.si i h1 h2]⟩)
open Classical in
theorem Ga(G:cB w R)(T:Step w w' R f):QZ w':=by
 have g:=G.g;have g':=pJ G T;have fn:=T.fn;have f1:=T.f1;have K:=nE G T;have len:=G.len;have zlt:=K.zlt;have oi:∀k,k<R.length->R.getD k 0≠w.length:=λk h=>by have:=zlt k h;omega
 have sx:∀i,i+1<R.length->au R (R.getD i 0)=R.getD (i+1) 0:=λi h=>bA G.nd h;have se:au R (R.getD (R.length-1) 0)=R.getD 0 0:=ck G.nd (by omega)
 intro c sy ev
 let s:Nat->Bool:=λk=>par (λi=>c w.length (R.getD i 0)) (List.range (k+1))
 let sp:Nat->Bool:=λk=>match k with|0=>false|k+1=>s k
 have ss:∀k,s (k+1)=(s k).xor (c w.length (R.getD (k+1) 0)):=λk=>by
  show par _ (List.range (k+1+1))=_;rw[List.range_succ,qw];show(s k).xor ((c w.length (R.getD (k+1) 0)).xor false)=_;rw[wa]
 have s0:s 0=c w.length (R.getD 0 0):=by
  show(c w.length (R.getD 0 0)).xor false=_;rw[wa]
 have Kh:R.take (f+1)=(List.range (f+1)).map λi=>R.getD i 0:=by
  refine List.ext_getElem (by rw[eD,aG,iI];omega) λi h1 h2=>?_
  rw[eD] at h1;rw[BM,BN,List.getElem_range,aV,bO (by omega)];rfl
 have II:∀(h:Nat->Bool)(φ:Nat->Nat)(l:List Nat),par h (l.map φ)=par (λi=>h (φ i)) l:=λh φ l=>by
  induction l with
  |nil=>rfl
  |cons a l ih=>rw[iJ,par,par,ih]
 have sf:s f=false:=by
  have:=ev w.length (by rw[T.l];omega)
  rw[T.rv,Ba,Kh,II] at this;exact this
 let de:Nat->Nat->Bool:=λx y=>decide (∃k,k<f/\x=R.getD k 0/\y=R.getD (k+1) 0/\s k=true)
 have OU:∀k,k<f->∀y,de (R.getD k 0) y=(decide (y=R.getD (k+1) 0)&&s k):=λk hk y=>by
  show decide _=_
  by_cases c1:y=R.getD (k+1) 0
  ·cases hs:s k with
   |true=>rw[decide_eq_true ⟨k,hk,rfl,c1,hs⟩,decide_eq_true c1];rfl
   |false=>
    rw[Bool.and_false];refine decide_eq_false ?_;rintro⟨j,hj,e,_,h⟩
    have:=K.inj k j (by omega) (by omega) e
    subst this;rw[hs] at h;cases h
  ·rw[decide_eq_false c1,v9]
   refine decide_eq_false ?_;rintro⟨j,hj,e,e2,h⟩
   have:=K.inj k j (by omega) (by omega) e
   subst this;exact c1 e2
 have Tv:∀k,k<f->∀x,de x (R.getD (k+1) 0)=(decide (x=R.getD k 0)&&s k):=λk hk x=>by
  show decide _=_
  by_cases c1:x=R.getD k 0
  ·cases hs:s k with
   |true=>rw[decide_eq_true ⟨k,hk,c1,rfl,hs⟩,decide_eq_true c1];rfl
   |false=>
    rw[Bool.and_false];refine decide_eq_false ?_;rintro⟨j,hj,_,e,h⟩
    have:=K.inj (k+1) (j+1) (by omega) (by omega) e
    have:k=j:=by omega
    subst this;rw[hs] at h;cases h
  ·rw[decide_eq_false c1,v9]
   refine decide_eq_false ?_;rintro⟨j,hj,e2,e,h⟩
   have:=K.inj (k+1) (j+1) (by omega) (by omega) e
   have:k=j:=by omega
   subst this;exact c1 e2
 have Tt:∀x y,(∀k,k<f->x≠R.getD k 0)->de x y=false:=λx y h=>decide_eq_false λ⟨k,hk,e,_⟩=>h k hk e;have Tu:∀x y,(∀k,k<f->y≠R.getD (k+1) 0)->de x y=false:=λx y h=>decide_eq_false λ⟨k,hk,_,e,_⟩=>h k hk e
 have Ds:∀k,k+1<R.length->R.getD (k+1) 0∈row w (R.getD k 0):=λk hk=>by
  have:=(G.hd _ (K.z k (by omega))).1
  rw[sx k hk] at this;exact this
 obtain⟨S,SF,SC⟩:=G.bnd (λx y=>((c x y).xor (de x y)).xor (de y x)) (λx y=>by
   show((c x y).xor (de x y)).xor (de y x)=((c y x).xor (de y x)).xor (de x y);rw[sy x y];cases c y x<;>cases de x y<;>cases de y x<;>rfl) (λp hp=>by
   have e:par (λy=>((c p y).xor (de p y)).xor (de y p)) (row w p)=((par (c p) (row w p)).xor (par (de p) (row w p))).xor (par (λy=>de y p) (row w p)):=by
    rw[vI (λy=>(c p y).xor (de p y)) (λy=>de y p),vI (c p) (de p)]
   rw[e];have Aw:=ev p (by rw[T.l];omega)
   by_cases hk:∃k,k<=f/\p=R.getD k 0
   ·obtain⟨k,hk,rfl⟩:=hk
    have hc:par (c (R.getD k 0)) (row w (R.getD k 0))=c w.length (R.getD k 0):=by
     by_cases k0:k=0
     ·subst k0
      rw[T.r0,par] at Aw;rw[sy w.length];cases h1:c (R.getD 0 0) w.length<;>cases h2:par (c (R.getD 0 0)) (row w (R.getD 0 0))<;>rw[h1,h2] at Aw<;>simp at Aw ⊢
     ·rw[T.rk k (by omega) hk,qw,par,par,wa] at Aw
      rw[sy w.length];cases h1:c (R.getD k 0) w.length<;>cases h2:par (c (R.getD k 0)) (row w (R.getD k 0))<;>rw[h1,h2] at Aw<;>simp at Aw ⊢
    have h1:par (de (R.getD k 0)) (row w (R.getD k 0))=if k<f then s k else false:=by
     by_cases kf:k<f
     ·rw[if_pos kf,pB (λy _=>OU k kf y)]
      exact vH (g.nod _) (Ds k (by omega))
     ·rw[if_neg kf]
      exact iZ λy _=>Tt _ _ λj hj e=>by have:=K.inj k j (by omega) (by omega) e;omega
    have h2:par (λy=>de y (R.getD k 0)) (row w (R.getD k 0))=sp k:=by
     cases k with
     |zero=>exact iZ λy _=>Tu _ _ λj hj e=>by have:=K.inj 0 (j+1) (by omega) (by omega) e;omega
     |succ k=>
      rw[pB (λy _=>Tv k (by omega) y)]
      exact vH (g.nod _) (g.sym _ _ (Ds k (by omega)))
    rw[hc,h1,h2];cases k with
    |zero=>
     rw[if_pos (by omega),s0]
     show((c w.length (R.getD 0 0)).xor _).xor false=false;rw[Bool.xor_self];rfl
    |succ k=>
     show(_:Bool).xor (s k)=false
     by_cases kf:k+1<f
     ·rw[if_pos kf,ss k]
      cases s k<;>cases c w.length (R.getD (k+1) 0)<;>rfl
     ·rw[if_neg kf]
      have:k+1=f:=by omega
      have h:=ss k;rw[this,sf] at h;rw[this];cases h1:s k<;>cases h2:c w.length (R.getD f 0)<;>rw[h1,h2] at h<;>simp at h ⊢
   ·have n1:∀k,k<=f->p≠R.getD k 0:=λk h z=>hk ⟨k,h,z⟩
    rw[T.ro p (by omega) n1] at Aw
    rw[Aw,iZ λy _=>Tt p y λk h=>n1 k (by omega),iZ λy _=>Tu y p λk h=>n1 (k+1) (by omega)]
    rfl)
 have xZ:∀i,i<R.length->S (R.getD i 0,au R (R.getD i 0))=S (R.getD 0 0,au R (R.getD 0 0)):=by
  intro i
  induction i with
  |zero=>intro _;rfl
  |succ i ih=>
   intro h;rw[<-ih (by omega)]
   have d:bu w (R.getD i 0,au R (R.getD i 0)):=(G.hd _ (K.z i (by omega))).1
   rw[SF _ d,G.outer ⟨K.z i (by omega),rfl⟩,sx i h]
 generalize ho:S (R.getD 0 0,au R (R.getD 0 0))=o at xZ
 let ix:Nat->Nat:=λx=>R.idxOf x
 have P2:∀k,k<R.length->ix (R.getD k 0)=k:=λk hk=>by
  show R.idxOf _=k;rw[aV,bO hk];exact G.nd.idxOf_getElem k hk
 let U:Nat×Nat->Bool:=λd=>if d.1=w.length then o.xor (s (ix d.2)) else if d.2=w.length then o.xor (sp (ix d.1)) else if ∃k,k<f/\d.1=R.getD k 0/\d.2=R.getD (k+1) 0 then o.xor (s (ix d.1)) else S d
 have Uv:∀k,k<=f->U (w.length,R.getD k 0)=o.xor (s k):=λk hk=>by
  show(if w.length=w.length then o.xor (s (ix (R.getD k 0))) else _)=_;rw[if_pos rfl,P2 k (by omega)]
 have Ux:∀k,k<=f->U (R.getD k 0,w.length)=o.xor (sp k):=λk hk=>by
  show(if R.getD k 0=w.length then _ else if w.length=w.length then o.xor (sp (ix (R.getD k 0))) else _)=_;rw[if_neg (oi k (by omega)),if_pos rfl,P2 k (by omega)]
 have Ua:∀k,k<f->U (R.getD k 0,R.getD (k+1) 0)=o.xor (s k):=λk hk=>by
  show(if R.getD k 0=w.length then _ else if R.getD (k+1) 0=w.length then _ else if _ then o.xor (s (ix (R.getD k 0))) else _)=_;rw[if_neg (oi k (by omega)),if_neg (oi (k+1) (by omega)),if_pos ⟨k,hk,rfl,rfl⟩,P2 k (by omega)]
 have Uo:∀x y,x≠w.length->y≠w.length->(∀k,k<f->x=R.getD k 0->y≠R.getD (k+1) 0)->U (x,y)=S (x,y):=λx y h1 h2 h3=>by
  show(if x=w.length then _ else if y=w.length then _ else if _ then _ else S (x,y))=_;rw[if_neg h1,if_neg h2,if_neg (λ⟨k,hk,e1,e2⟩=>h3 k hk e1 e2)]
 have WU:∀b:Bool,b.xor false=b:=wa;refine⟨U,λd hd=>?_,λx y hd=>?_⟩
 ·obtain⟨x,y⟩:=d
  by_cases xv:x=w.length
  ·subst xv
   obtain⟨k,hk,rfl⟩:=(K.dv y).mp hd;rw[K.n4 k hk,Uv k hk]
   by_cases kf:k<f
   ·rw[sx k (by omega),Ua k kf]
   ·have:k=f:=by omega
    subst this
    rw[Uo _ _ (oi k (by omega)) (by
     have:=dJ (K.z k (by omega))
     have:=aI (G.hd _ this).1
     omega) (λj hj e=>by have:=K.inj k j (by omega) (by omega) e;omega),xZ k (by omega),sf,WU]
  ·by_cases yv:y=w.length
   ·subst yv
    rcases(K.dx x xv _).mp hd with h| ⟨_,k,hk,rfl⟩
    ·exact absurd (g.rng _ _ h) (fz _)
    ·cases k with
     |zero=>
      rw[K.n3e,Ux 0 hk,Uv f (bC _),sf]
     |succ k=>
      rw[K.n3 k (by omega),Ux (k+1) hk,Uv k (by omega)]
   ·have d0:bu w (x,y):=by
     rcases(K.dx x xv y).mp hd with h| ⟨h,_⟩
     ·exact h
     ·exact absurd h yv
    by_cases ad:kW R x y
    ·obtain⟨hx,rfl⟩:=ad
     obtain⟨i,hi,rfl⟩:∃i,i<R.length/\x=R.getD i 0:=by
      obtain⟨i,hi,e⟩:=jP.mp hx;exact⟨i,hi,by rw[aV,bO hi];exact e.symm⟩
     by_cases c1:i<f
     ·rw[sx i (by omega),K.n2 i c1,Ua i c1,Ux (i+1) (by omega)]
     ·have u1:U (R.getD i 0,au R (R.getD i 0))=o:=by
       rw[Uo _ _ xv yv (λj hj e=>by have:=K.inj i j (by omega) (by omega) e;omega),xZ i hi]
      rw[u1]
      by_cases c2:i+1<R.length
      ·rw[sx i c2,K.n1o i (by omega) c2,Uo _ _ (oi _ c2) (by
        have:=dJ (K.z (i+1) c2)
        have:=aI (G.hd _ this).1
        omega) (λj hj e=>by have:=K.inj (i+1) j (by omega) (by omega) e;omega),xZ (i+1) c2]
      ·have:i=R.length-1:=by omega
       subst this;rw[se,K.n1e,Ux 0 (cM _)];exact(WU o).symm
    ·have e:=K.n1 x y d0 ad
     have tr:=(G.tri x y d0 ad).2;have dn:=gi g d0
     have lo:∀p q,bu w (p,q)->¬kW R p q->U (p,q)=S (p,q):=λp q h1 h2=>by
      have a1:=aI (show q∈row w p from h1);have a2:=g.rng _ _ (show q∈row w p from h1);exact Uo p q (by omega) (by omega) λk hk e1 e2=>h2 ⟨by rw[e1];exact K.z k (by omega),by rw[e1,e2,sx k (by omega)]⟩
     rw[e,lo x y d0 ad,SF _ d0];exact(lo _ _ dn tr).symm
 ·by_cases xv:x=w.length
  ·subst xv
   obtain⟨k,hk,rfl⟩:=(K.dv y).mp hd;rw[Uv k hk,Ux k hk];cases k with
   |zero=>
    rw[s0];show(o.xor _).xor (o.xor false)=_;cases o<;>cases c w.length (R.getD 0 0)<;>rfl
   |succ k=>
    rw[ss k];show(o.xor _).xor (o.xor (s k))=_;cases o<;>cases s k<;>cases c w.length (R.getD (k+1) 0)<;>rfl
  ·by_cases yv:y=w.length
   ·subst yv
    rcases(K.dx x xv _).mp hd with h| ⟨_,k,hk,rfl⟩
    ·exact absurd (g.rng _ _ h) (fz _)
    ·rw[Uv k hk,Ux k hk,sy]
     cases k with
     |zero=>
      rw[s0];show(o.xor false).xor (o.xor _)=_;cases o<;>cases c w.length (R.getD 0 0)<;>rfl
     |succ k=>
      rw[ss k];show(o.xor (s k)).xor (o.xor _)=_;cases o<;>cases s k<;>cases c w.length (R.getD (k+1) 0)<;>rfl
   ·have d0:bu w (x,y):=by
     rcases(K.dx x xv y).mp hd with h| ⟨h,_⟩
     ·exact h
     ·exact absurd h yv
    have sc:=SC x y d0
    by_cases a1:∃k,k<f/\x=R.getD k 0/\y=R.getD (k+1) 0
    ·obtain⟨k,hk,rfl,rfl⟩:=a1
     have e1:S (R.getD k 0,R.getD (k+1) 0)=o:=by rw[<-sx k (by omega)];exact xZ k (by omega)
     have e2:de (R.getD k 0) (R.getD (k+1) 0)=s k:=by rw[OU k hk];simp
     have e3:de (R.getD (k+1) 0) (R.getD k 0)=false:=decide_eq_false λ⟨j,hj,e,e',_⟩=>by
      have:=K.inj (k+1) j (by omega) (by omega) e
      have:=K.inj k (j+1) (by omega) (by omega) e'
      omega
     rw[Ua k hk,Uo _ _ (oi (k+1) (by omega)) (oi k (by omega)) (λj hj e e'=>by
      have:=K.inj (k+1) j (by omega) (by omega) e
      have:=K.inj k (j+1) (by omega) (by omega) e'
      omega)]
     rw[e1,e2,e3] at sc
     revert sc
     cases o<;>cases s k<;>cases S (R.getD (k+1) 0,R.getD k 0)<;>cases c (R.getD k 0) (R.getD (k+1) 0)<;>simp
    ·by_cases a2:∃k,k<f/\y=R.getD k 0/\x=R.getD (k+1) 0
     ·obtain⟨k,hk,rfl,rfl⟩:=a2
      have e1:S (R.getD k 0,R.getD (k+1) 0)=o:=by rw[<-sx k (by omega)];exact xZ k (by omega)
      have e2:de (R.getD k 0) (R.getD (k+1) 0)=s k:=by rw[OU k hk];simp
      have e3:de (R.getD (k+1) 0) (R.getD k 0)=false:=decide_eq_false λ⟨j,hj,e,e',_⟩=>by
       have:=K.inj (k+1) j (by omega) (by omega) e
       have:=K.inj k (j+1) (by omega) (by omega) e'
       omega
      rw[Ua k hk,Uo _ _ (oi (k+1) (by omega)) (oi k (by omega)) (λj hj e e'=>a1 ⟨j,hj,e,e'⟩)]
      rw[e1,e2,e3] at sc
      revert sc
      cases o<;>cases s k<;>cases S (R.getD (k+1) 0,R.getD k 0)<;>cases c (R.getD (k+1) 0) (R.getD k 0)<;>simp
     ·have e2:de x y=false:=decide_eq_false λ⟨j,hj,e,e',_⟩=>a1 ⟨j,hj,e,e'⟩
      have e3:de y x=false:=decide_eq_false λ⟨j,hj,e,e',_⟩=>a2 ⟨j,hj,e,e'⟩;rw[Uo x y xv yv (λj hj e e'=>a1 ⟨j,hj,e,e'⟩),Uo y x yv xv (λj hj e e'=>a2 ⟨j,hj,e,e'⟩),sc,e2,e3];simp
theorem sT(G:cB w R)(T:Step w w' R f):cB w' (bY R f w.length):=by
 have g:=G.g;have g':=pJ G T;have fn:=T.fn;have f1:=T.f1;have K:=nE G T;have F:=lC G T;have len:=G.len;have oi:∀k,k<R.length->R.getD k 0≠w.length:=λk h=>by have:=K.zlt k h;omega
 have sx:∀i,i+1<R.length->au R (R.getD i 0)=R.getD (i+1) 0:=λi h=>bA G.nd h;have se:au R (R.getD (R.length-1) 0)=R.getD 0 0:=ck G.nd (by omega)
 have NG:∀k,k<R.length->(row w (R.getD k 0)).length≠0:=λk hk z=>by
  have:=(G.hd _ (K.z k hk)).1
  rw[BI.mp z] at this;cases this
 have rvl:(R.take (f+1)).reverse.length=f+1:=by rw[wk,eD];omega
 have e0:=fc fn (cM f);have ef:=fc fn (bC f);rw[Nat.sub_zero] at e0;rw[kQ] at ef;have m0:R.getD 0 0∈bY R f w.length:=(F.mem _).mpr (.inl rfl);have mv:w.length∈bY R f w.length:=(F.mem _).mpr (.inr (.inl rfl));have mi:∀i,f<=i->i<R.length->R.getD i 0∈bY R f w.length:=λi h1 h2=>(F.mem _).mpr (.inr (.inr ⟨i,h1,h2,rfl⟩));have EA:∀i,f<i->i<R.length->row w' (R.getD i 0)=row w (R.getD i 0):=λi h1 h2=>T.ro _ (oi i h2) λk hk e=>by have:=K.inj i k h2 (by omega) e;omega
 refine⟨g',F.nd,by have:=F.len;omega,λx hx=>?_,λx hx=>?_,λx y hd n=>?_,Ga G T⟩
 ·rcases(F.mem x).mp hx with rfl|rfl| ⟨i,h1,h2,rfl⟩
  ·rw[F.s0,T.r0]
   exact⟨b6 ..,rfl⟩
  ·rw[F.sv,T.rv]
   exact⟨by rw[<-ef];exact br (by omega),ef⟩
  ·rw[F.si i h1 h2]
   have h:=G.hd _ (K.z i h2)
   by_cases c:i=f
   ·subst c
    rw[T.rk i f1 (bC _)];refine⟨kM _ h.1,?_⟩;rw[aV,gk (by have:=NG i h2;omega),<-aV]
    exact h.2
   ·rw[EA i (by omega) h2];exact h
 ·rcases(F.mem x).mp hx with rfl|rfl| ⟨i,h1,h2,rfl⟩
  ·have h:=G.ls _ (K.z 0 (by omega))
   have el:(row w' (R.getD 0 0)).getD ((row w' (R.getD 0 0)).length-1) 0=R.getD (R.length-1) 0:=by
    have l0:=NG 0 (by omega)
    rw[T.r0,cw,show(row w (R.getD 0 0)).length+1-1=(row w (R.getD 0 0)).length-1+1 by omega,qU]
    exact lJ G.nd h.1 (K.z _ (by omega)) (by rw[h.2,se])
   rw[el];exact⟨mi _ (by omega) (by omega),by rw[F.si _ (by omega) (by omega),se]⟩
  ·rw[T.rv,rvl,show f+1-1=f by omega,e0]
   exact⟨m0,F.s0⟩
  ·by_cases c:i=f
   ·subst c
    have el:(row w' (R.getD i 0)).getD ((row w' (R.getD i 0)).length-1) 0=w.length:=by
     rw[T.rk i f1 (bC _),cx,wj,Nat.add_sub_cancel,aV,hU (bC _),kQ];rfl
    rw[el];exact⟨mv,F.sv⟩
   ·obtain⟨e,ne⟩:=G.rK (K.z i h2) (K.z (i-1) (by omega)) (by rw[sx (i-1) (by omega),show i-1+1=i by omega])
    rw[EA i (by omega) h2,e]
    refine⟨mi _ (by omega) (by omega),?_⟩
    rw[F.si _ (by omega) (by omega),sx (i-1) (by omega),show i-1+1=i by omega]
 ·by_cases xv:x=w.length
  ·subst xv
   obtain⟨k,hk,rfl⟩:=(K.dv y).mp hd
   have kf:k<f:=by
    apply Classical.byContradiction;intro c
    have:k=f:=by omega
    subst this;exact n ⟨mv,F.sv.symm⟩
   have e1:=K.n4 k hk;rw[sx k (by omega)] at e1
   rw[e1,K.n2 k kf,K.n3 k kf];refine⟨rfl,λz=>?_⟩
   rcases F.kW z with ⟨_,h⟩ | ⟨h,_⟩ | ⟨i,h1,h2,h3,_⟩
   ·exact oi (k+1) (by omega) h
   ·exact oi k (by omega) h
   ·have:=K.inj k i (by omega) h2 h3;omega
  ·by_cases yv:y=w.length
   ·subst yv
    rcases(K.dx x xv _).mp hd with h| ⟨_,k,hk,rfl⟩
    ·exact absurd (g.rng _ _ h) (fz _)
    ·cases k with
     |zero=>exact absurd ⟨m0,F.s0.symm⟩ n
     |succ k=>
      have e4:=K.n4 k (by omega)
      rw[sx k (by omega)] at e4
      rw[K.n3 k (by omega),e4,K.n2 k (by omega)]
      refine⟨rfl,λz=>?_⟩
      rcases F.kW z with ⟨h,_⟩ | ⟨_,h⟩ | ⟨i,h1,h2,h3,_⟩
      ·exact oi 0 (by omega) h.symm
      ·have:=K.inj k f (by omega) fn h;omega
      ·exact oi i h2 h3.symm
   ·have d0:bu w (x,y):=by
     rcases(K.dx x xv y).mp hd with h| ⟨h,_⟩
     ·exact h
     ·exact absurd h yv
    by_cases ad:kW R x y
    ·obtain⟨hx,rfl⟩:=ad
     obtain⟨i,hi,rfl⟩:∃i,i<R.length/\x=R.getD i 0:=by
      obtain⟨i,hi,e⟩:=jP.mp hx;exact⟨i,hi,by rw[aV,bO hi];exact e.symm⟩
     have c1:i<f:=by
      apply Classical.byContradiction;intro c;exact n ⟨mi i (by omega) hi,(F.si i (by omega) hi).symm⟩
     have e4:=K.n4 i (by omega)
     rw[sx i (by omega)] at e4
     rw[sx i (by omega),K.n2 i c1,K.n3 i c1,e4]
     refine⟨rfl,λz=>?_⟩
     rcases F.kW z with ⟨h,_⟩ | ⟨h,_⟩ | ⟨j,h1,h2,_,h4⟩
     ·have:=K.inj (i+1) 0 (by omega) (by omega) h;omega
     ·exact oi (i+1) (by omega) h
     ·have:=dJ (K.z j h2)
      have:=aI (G.hd _ this).1
      have h4:w.length=au R (R.getD j 0):=h4;omega
    ·have step:∀p q,bu w (p,q)->¬kW R p q->bD w' (p,q)=bD w (p,q):=λp q h1 h2=>K.n1 p q h1 h2
     have t1:=G.tri x y d0 ad;have d1:=gi g d0;have t2:=G.tri _ _ d1 t1.2;have d2:=gi g d1;have e1:=step x y d0 ad;have e2:bD w' (bD w (x,y))=bD w (bD w (x,y)):=step _ _ d1 t1.2;have e3:bD w' (bD w (bD w (x,y)))=bD w (bD w (bD w (x,y))):=step _ _ d2 t2.2;rw[e1,e2,e3];refine⟨t1.1,λz=>?_⟩;have b1:=aI (show(bD w (x,y)).2∈row w (bD w (x,y)).1 from d1);have b2:=g.rng _ _ (show(bD w (x,y)).2∈row w (bD w (x,y)).1 from d1)
     rcases F.kW z with ⟨_,h⟩ | ⟨h,_⟩ | ⟨i,h1,h2,h3,h4⟩
     ·omega
     ·omega
     ·exact t1.2 ⟨by rw[h3];exact K.z i h2,by rw[h4,<-h3]⟩
theorem y1:cB [[1,2],[2,0],[0,1]] [0,1,2]:=by
 have Ez:row [[1,2],[2,0],[0,1]] 0= [1,2]:=rfl;have NP:row [[1,2],[2,0],[0,1]] 1= [2,0]:=rfl;have Xx:row [[1,2],[2,0],[0,1]] 2= [0,1]:=rfl;have EA:∀x,3<=x->row [[1,2],[2,0],[0,1]] x= []:=λx h=>vM h;have c3:∀x,x<3->x=0\/x=1\/x=2:=λx h=>by omega
 have rl:∀{x y},y∈row [[1,2],[2,0],[0,1]] x->x<3:=λh=>aI h;have dec:∀x,x<3->∀y,y<3->(y∈row [[1,2],[2,0],[0,1]] x↔x≠y):=by decide
 have inR:∀{x y},y∈row [[1,2],[2,0],[0,1]] x->y<3:=λ {x y} h=>by
  rcases c3 x (rl h) with rfl|rfl|rfl
  ·rw[Ez] at h;simp at h;omega
  ·rw[NP] at h;simp at h;omega
  ·rw[Xx] at h;simp at h;omega
 have g:Good [[1,2],[2,0],[0,1]]:=by
  refine⟨λp q h=>inR h,λp h=>?_,λp=>?_,λp q h=>?_,λp hp=>?_⟩
  ·exact((dec p (rl h) p (rl h)).mp h) rfl
  ·by_cases c:p<3
   ·rcases c3 p c with rfl|rfl|rfl<;>decide
   ·rw[EA p (by omega)];exact ic
  ·have a:=rl h
   have b:=inR h;exact(dec q b p a).mpr (Ne.symm ((dec p a q b).mp h))
  ·rcases c3 p hp with rfl|rfl|rfl
   ·exact .refl _
   ·exact .step (.refl _) (by rw[Ez];simp)
   ·exact .step (.refl _) (by rw[Ez];simp)
 have yR:∀x y,bu [[1,2],[2,0],[0,1]] (x,y)->(x,y)∈ [(0,1),(1,2),(2,0),(1,0),(0,2),(2,1)]:=λx y h=>by
  have a:=rl h;have b:=inR h;have n:=(dec x a y b).mp h
  rcases c3 x a with rfl|rfl|rfl<;>rcases c3 y b with rfl|rfl|rfl<;>first|exact absurd rfl n|decide
 have sc:au [0,1,2] 0=1/\au [0,1,2] 1=2/\au [0,1,2] 2=0:=by decide
 refine⟨g,by decide,by decide,by decide,by decide,λx y hd n=>?_,?_⟩
 ·have hm:=yR x y hd
  simp only[cm,Prod.mk.injEq,ia,or_false] at hm
  rcases hm with ⟨rfl,rfl⟩ | ⟨rfl,rfl⟩ | ⟨rfl,rfl⟩ | ⟨rfl,rfl⟩ | ⟨rfl,rfl⟩ | ⟨rfl,rfl⟩
  ·exact absurd ⟨by simp,sc.1.symm⟩ n
  ·exact absurd ⟨by simp,sc.2.1.symm⟩ n
  ·exact absurd ⟨by simp,sc.2.2.symm⟩ n
  ·exact⟨by decide,λz=>by have h:=z.2;revert h;decide⟩
  ·exact⟨by decide,λz=>by have h:=z.2;revert h;decide⟩
  ·exact⟨by decide,λz=>by have h:=z.2;revert h;decide⟩
 ·intro c sy ev
  have h0:=ev 0 (by decide)
  have h1:=ev 1 (by decide)
  rw[Ez] at h0;rw[NP] at h1;simp only[par,wa] at h0 h1;refine⟨λd=>decide (d=(1,0)\/d=(0,2)\/d=(2,1))&&c 0 1,λd hd=>?_,λx y hd=>?_⟩
  ·obtain⟨x,y⟩:=d
   have hm:=yR x y hd;simp only[cm,Prod.mk.injEq,ia,or_false] at hm
   rcases hm with ⟨rfl,rfl⟩ | ⟨rfl,rfl⟩ | ⟨rfl,rfl⟩ | ⟨rfl,rfl⟩ | ⟨rfl,rfl⟩ | ⟨rfl,rfl⟩<;>(refine congrArg (·&&c 0 1) ?_;decide)
  ·have hm:=yR x y hd
   simp only[cm,Prod.mk.injEq,ia,or_false] at hm;have e1:c 0 2=c 0 1:=by revert h0;cases c 0 1<;>cases c 0 2<;>simp
   have e2:c 1 2=c 0 1:=by
    rw[sy 1 0] at h1
    revert h1;cases c 0 1<;>cases c 1 2<;>simp
   rcases hm with ⟨rfl,rfl⟩ | ⟨rfl,rfl⟩ | ⟨rfl,rfl⟩ | ⟨rfl,rfl⟩ | ⟨rfl,rfl⟩ | ⟨rfl,rfl⟩
   ·simp
   ·simp[e2]
   ·rw[sy 2 0,e1];simp
   ·rw[sy 1 0];simp
   ·simp[e1]
   ·rw[sy 2 1,e2];simp
end
structure tw (w w':W) (f:Nat->Nat):Prop where
 len:w'.length=w.length
 lt:∀x,x<w.length->f x<w.length
 inj:∀x y,x<w.length->y<w.length->f x=f y->x=y
 onto:∀y,y<w.length->∃x,x<w.length/\f x=y
 rows:∀x,x<w.length->∃a b,row w x=a++b/\row w' (f x)=(b++a).map f
theorem u5{f:Nat->Nat}{x:Nat}:∀{l:List Nat},(∀y∈l,f y=f x->y=x)->(l.map f).idxOf (f x)=l.idxOf x
 | [],_=>rfl
 |a::l,h=>by
  rw[iJ,List.idxOf_cons,List.idxOf_cons,u5 λy hy=>h y (bP _ hy)]
  by_cases c:a=x
  ·subst c;simp
  ·have:f a≠f x:=λz=>c (h a (b6 ..) z)
   have e1:(f a==f x)=false:=by simpa using this
   have e2:(a==x)=false:=by simpa using c
   rw[e1,e2]
theorem Dl{f:Nat->Nat}{l:List Nat}{x:Nat}(h:∀y∈l,f y=f x->y=x)(hx:x∈l):au (l.map f) (f x)=f (au l x):=by
 have e:=lI hx;show(l.map f).getD (((l.map f).idxOf (f x)+1)%(l.map f).length) 0=_;rw[u5 h,aG,aV,cA,e];rfl
section
variable {w w':W} {f:Nat->Nat}
theorem tw.good(N:tw w w' f)(g:Good w):Good w':=
 good_ren g N.len N.lt N.inj N.onto λp hp=>by
  obtain⟨a,b,e1,e2⟩:=N.rows p hp;rw[e1,e2];exact(List.perm_append_comm (l₁:=b) (l₂:=a)).map f
theorem tw.mem(N:tw w w' f){x z:Nat}(hx:x<w.length):z∈row w' (f x)↔∃y,y∈row w x/\f y=z:=by
 obtain⟨a,b,e1,e2⟩:=N.rows x hx;rw[e2,b8]
 constructor
 ·rintro⟨y,hy,rfl⟩
  exact⟨y,by rw[e1];exact List.perm_append_comm.mem_iff.mp hy,rfl⟩
 ·rintro⟨y,hy,rfl⟩
  rw[e1] at hy;exact⟨y,List.perm_append_comm.mem_iff.mp hy,rfl⟩
theorem tw.all(N:tw w w' f)(g:Good w){d:Nat×Nat}(h:bu w' d):∃x y,bu w (x,y)/\d=(f x,f y):=by
 obtain⟨a,b⟩:=d;have ha:=aI (show b∈row w' a from h);rw[N.len] at ha;obtain⟨x,hx,rfl⟩:=N.onto a ha;obtain⟨y,hy,e⟩:=(N.mem hx).mp h;have e:f y=b:=e;exact⟨x,y,hy,by rw[e]⟩
theorem tw.succ(N:tw w w' f)(g:Good w){x y:Nat}(h:y∈row w x):au (row w' (f x)) (f y)=f (au (row w x) y):=by
 obtain⟨a,b,e1,e2⟩:=N.rows x (aI h);have hm:y∈a++b:=e1▸h;have og:y∈b++a:=List.perm_append_comm.mem_iff.mp hm;have nd:=g.nod x;rw[e1] at nd;rw[e2,e1,Dl (λz hz e=>N.inj z y (g.rng x z (by rw[e1];exact List.perm_append_comm.mem_iff.mp hz)) (g.rng _ _ h) e) og,vV nd hm]
theorem tw.Qd(N:tw w w' f)(g:Good w){x y:Nat}(h:bu w (x,y)):bD w' (f x,f y)=(f (bD w (x,y)).1,f (bD w (x,y)).2):=by
 show(f y,au (row w' (f y)) (f x))=(f y,f (au (row w y) x));rw[N.succ g (g.sym _ _ h)]
open Classical in
end
theorem cB.three{w:W}{R:List Nat}(G:cB w R)(l3:R.length=3){d:Nat×Nat}(hd:bu w d):bD w (bD w (bD w d))=d:=by
 by_cases c:kW R d.1 d.2
 ·have e1:bD w d=(d.2,au R d.2):=G.outer c
  have m2:d.2∈R:=by rw[c.2];exact dJ c.1
  have e2:=G.outer (x:=d.2) (y:=au R d.2) ⟨m2,rfl⟩;have m3:=dJ m2;have e3:=G.outer (x:=au R d.2) (y:=au R (au R d.2)) ⟨m3,rfl⟩;rw[e1,e2,e3,c.2]
  have key:∀x∈R,au R (au R (au R x))=x:=λx hx=>by
   match R,l3,G.nd,hx with
   | [a,b,e],_,nd,hx=>
    simp only[eE,cm,ia,or_false,not_or] at nd;have s1:au [a,b,e] a=b:=fw (a:= []) (b:= [e]) (by simp[nd])
    have s2:au [a,b,e] b=e:=fw (a:= [a]) (b:= []) (by simp[nd])
    have s3:au [a,b,e] e=a:=jN (b:= [b]) (by simp[nd])
    simp only[cm,ia,or_false] at hx
    rcases hx with rfl|rfl|rfl
    ·rw[s1,s2,s3]
    ·rw[s2,s3,s1]
    ·rw[s3,s1,s2]
  rw[key _ c.1];exact Prod.ext rfl c.2.symm
 ·exact(G.tri d.1 d.2 hd c).1
theorem qG{w:W}{i x:Nat}{r:List Nat}(h:i<w.length):row (w.set i r) x=if i=x then r else row w x:=by
 unfold row;rw[aV,hZ,aV]
 by_cases e:i=x
 ·subst e;rw[if_pos rfl,if_pos h,if_pos rfl];rfl
 ·rw[if_neg e,if_neg e]
theorem kH{w:W}{x:Nat}{r:List Nat}:row (w++ [r]) x=if x=w.length then r else row w x:=by
 unfold row;rw[aV,aV]
 by_cases c:x<w.length
 ·rw[gk c,if_neg (by omega)]
 ·by_cases e:x=w.length
  ·subst e;rw[if_pos rfl];simp
  ·rw[if_neg e,fi (by simp;omega),fi (by omega)]
structure ug (w w':W) (R:List Nat) (f k:Nat):Prop where
 l:w'.length=w.length+1
 rv:row w' w.length=(R.take (f+1)).reverse
 r0:row w' (R.getD 0 0)=w.length::row w (R.getD 0 0)
 rk:∀i,1<=i->i<=k->row w' (R.getD i 0)=row w (R.getD i 0)++ [w.length]
 ro:∀x,x≠w.length->(∀i,i<=k->x≠R.getD i 0)->row w' x=row w x
theorem ug.start{w:W}{R:List Nat}{f:Nat}(h:R.getD 0 0<w.length):ug w ((w++ [(R.take (f+1)).reverse]).set (R.getD 0 0) (w.length::row w (R.getD 0 0))) R f 0:=by
 have hl:(w++ [(R.take (f+1)).reverse]).length=w.length+1:=by simp
 have rp:∀x,row ((w++ [(R.take (f+1)).reverse]).set (R.getD 0 0) (w.length::row w (R.getD 0 0))) x=_:=λx=>qG (x:=x) (by omega)
 refine⟨by rw[dB];exact hl,?_,?_,λi h1 h2=>by omega,λx h1 h2=>?_⟩
 ·rw[rp,if_neg (by omega),kH,if_pos rfl]
 ·rw[rp,if_pos rfl]
 ·rw[rp,if_neg (λz=>h2 0 (bC _) z.symm),kH,if_neg h1]
theorem ug.step{w w':W}{R:List Nat}{f k:Nat}(M:ug w w' R f k)(nd:R.Nodup)(hf:f<R.length)(hk:k+1<=f)(h:R.getD (k+1) 0<w.length):ug w (w'.set (R.getD (k+1) 0) (row w' (R.getD (k+1) 0)++ [w.length])) R f (k+1):=by
 have ne:∀i,i<=k->R.getD (k+1) 0≠R.getD i 0:=λi hi e=>by
  have:=getD_inj nd (by omega) (by omega) e;omega
 have rp:∀x,row (w'.set (R.getD (k+1) 0) (row w' (R.getD (k+1) 0)++ [w.length])) x=_:=λx=>qG (x:=x) (by rw[M.l];omega)
 refine⟨by rw[dB];exact M.l,?_,?_,λi h1 h2=>?_,λx h1 h2=>?_⟩
 ·rw[rp,if_neg (by omega)];exact M.rv
 ·rw[rp,if_neg (ne 0 (by omega))];exact M.r0
 ·by_cases c:i=k+1
  ·subst c
   rw[rp,if_pos rfl,M.ro _ (by omega) (λi hi=>ne i hi)]
  ·rw[rp,if_neg (ne i (by omega))];exact M.rk i h1 (by omega)
 ·rw[rp,if_neg (λz=>h2 (k+1) (bC _) z.symm)]
  exact M.ro x h1 λi hi=>h2 i (by omega)
theorem ug.fin{w w':W}{R:List Nat}{f:Nat}(M:ug w w' R f f)(f1:1<=f)(hf:f<R.length):Step w w' R f:=⟨M.l,f1,hf,M.rv,M.r0,M.rk,M.ro⟩
theorem cB.Jq{w:W}{R:List Nat}(G:cB w R){x:Nat}(h:x∈R):x<w.length:=aI (G.hd x h).1
theorem cB.Qx{w:W}{R:List Nat}(G:cB w R):R.length<=w.length:=by
 have:=aQ G.nd (m:=List.range w.length) λx hx=>cT.mpr (G.Jq hx)
 rw[iI] at this;exact this
theorem Good.zE{w:W}(g:Good w)(h2:2<=w.length){p:Nat}(hp:p<w.length):row w p≠ []:=by
 obtain⟨p',kv,ne⟩:∃p',p'<w.length/\p'≠p:=by
  by_cases c:p=0
  ·exact⟨1,by omega,by omega⟩
  ·exact⟨0,by omega,by omega⟩
 have r:=((g.con p' kv).symm g.sym).trans (g.con p hp);cases r with
 |refl=>exact absurd rfl ne
 |step _ h=>
  have:=g.sym _ _ h
  intro e;rw[e] at this;cases this
structure jQ (w:W) (c:Nat->Nat):Prop where
 lt:∀p,p<w.length->c p<3
 ne:∀p q,q∈row w p->c p≠c q
def n5(w:W):Prop:=∀d,bu w d->bD w (bD w (bD w d))=d
theorem alt{c:Nat->Nat}{l:List Nat}{a:Nat}(ha:a<3)(h3:∀x∈l,c x<3/\c x≠a)(hs:∀i,i+1<l.length->c (l.getD i 0)≠c (l.getD (i+1) 0)):∀k,2*k<l.length->c (l.getD (2*k) 0)=c (l.getD 0 0)
 |0,_=>rfl
 |k+1,h=>by
  have ih:=alt ha h3 hs k (by omega)
  have h0:=h3 _ (br (l:=l) (i:=2*k) (by omega))
  have h1:=h3 _ (br (l:=l) (i:=2*k+1) (by omega))
  have h2:=h3 _ (br (l:=l) (i:=2*k+1+1) (by omega))
  have e1:=hs (2*k) (by omega)
  have e2:=hs (2*k+1) (by omega)
  rw[show 2*(k+1)=2*k+1+1 by omega,<-ih]
  omega
theorem EH{w:W}(g:Good w){p q:Nat}(h:q∈row w p)(T:bD w (bD w (bD w (q,p)))=(q,p)):au (row w p) q∈row w q:=by
 have hr:=dJ h;have e:au (row w (au (row w p) q)) p=q:=congrArg Prod.fst T
 have:=dJ (g.sym _ _ hr)
 rw[e] at this;exact g.sym _ _ this
theorem n5.Ds{w:W}(T:n5 w)(g:Good w){p q:Nat}(h:q∈row w p):au (row w p) q∈row w q:=EH g h (T _ (g.sym _ _ h))
theorem jQ.TL{w:W}{c:Nat->Nat}(C:jQ w c)(g:Good w)(T:n5 w){p:Nat}(hp:p<w.length):(row w p).length%2=0:=by
 apply Classical.byContradiction;intro z
 have a:=alt (c:=c) (l:=row w p) (C.lt p hp) (λx hx=>⟨C.lt x (g.rng _ _ hx),λe=>C.ne p x hx e.symm⟩) (λi hi=>by
  have hm:=br (l:=row w p) (i:=i) (by omega)
  have:=T.Ds g hm
  rw[bA (g.nod p) hi] at this;exact C.ne _ _ this) ((row w p).length / 2) (by omega)
 have hl:2*((row w p).length / 2)=(row w p).length-1:=by omega
 rw[hl] at a;have hm:=br (l:=row w p) (i:=(row w p).length-1) (by omega)
 have:=T.Ds g hm
 rw[ck (g.nod p) (by omega)] at this
 exact C.ne _ _ this a
theorem Ab{l:List Nat}(nd:l.Nodup){q:Nat}(hq:q∈l){P:Nat->Prop}(h0:P q)(hs:∀x∈l,P x->P (au l x)):∀x∈l,P x:=by
 obtain⟨i,hi,rfl⟩:=jP.mp hq;have ei:l[i]=l.getD i 0:=by rw[aV,bO hi];rfl
 rw[ei] at h0
 have step:∀j,j<l.length->P (l.getD j 0)->P (l.getD ((j+1)%l.length) 0):=λj hj h=>by
  have:=hs _ (br hj) h
  by_cases c:j+1<l.length
  ·rw[qW c,<-bA nd c];exact this
  ·rw[show j+1=l.length by omega,Nat.mod_self,<-ck nd (i:=j) (by omega)];exact this
 have all:∀k,P (l.getD ((i+k)%l.length) 0):=λk=>by
  induction k with
  |zero=>rw[Nat.add_zero,qW hi];exact h0
  |succ k ih=>
   have:=step _ (tm _ (by omega)) ih
   rw[Nat.mod_add_mod] at this;exact this
 intro x hx;obtain⟨j,hj,rfl⟩:=jP.mp hx;have ej:l[j]=l.getD j 0:=by rw[aV,bO hj];rfl
 have:=all (j+l.length-i)
 rw[show i+(j+l.length-i)=j+l.length by omega,Nat.add_mod_right,qW hj,<-ej] at this
 exact this
theorem pP{w:W}(g:Good w){S:Nat->Prop}{a:Nat}(ha:a<w.length)(h0:S a)(hc:∀p q,S p->q∈row w p->S q):∀p,p<w.length->S p:=λp hp=>by
 have r:Reach w a p:=(Reach.symm g.sym (g.con a ha)).trans (g.con p hp);clear hp
 induction r with
 |refl=>exact h0
 |step _ h ih=>exact hc _ _ ih h
theorem jQ.one{w:W}{c c':Nat->Nat}(C:jQ w c)(C':jQ w c')(g:Good w)(T:n5 w){a q:Nat}(hq:q∈row w a)(e0:c a=c' a)(eq:c q=c' q):∀p,p<w.length->c p=c' p:=by
 have full:∀p q,q∈row w p->c p=c' p->c q=c' q->∀x∈row w p,c x=c' x:=λp q hq ep eq=>Ab (g.nod p) hq eq λx hx ex=>by
  have hy:=dJ hx;have t:=T.Ds g hx;have pl:=aI hx;have a1:=C.lt _ pl;have a2:=C.lt _ (g.rng _ _ hx);have a3:=C.lt _ (g.rng _ _ hy);have a4:=C'.lt _ (g.rng _ _ hy);have b1:=C.ne _ _ hx;have b2:=C.ne _ _ hy;have b3:=C.ne _ _ t;have b4:=C'.ne _ _ hy;have b5:=C'.ne _ _ t;omega
 have:=pP g (aI hq) (S:=λp=>c p=c' p/\∀x∈row w p,c x=c' x) ⟨e0,full a q hq e0 eq⟩ λp q h hq=>⟨h.2 q hq,full q p (g.sym _ _ hq) (h.2 q hq) h.1⟩
 exact λp hp=>(this p hp).1
theorem jQ.any{w:W}{c:Nat->Nat}(C:jQ w c)(g:Good w){o q:Nat}(hq:q∈row w o){a b:Nat}(ha:a<3)(hb:b<3)(ne:a≠b):jQ w (λp=>if c p=c o then a else if c p=c q then b else 3-a-b):=by
 have z0:=C.lt o (aI hq);have zq:=C.lt q (g.rng _ _ hq);have n0:=C.ne _ _ hq;refine⟨λp hp=>?_,λp r h=>?_⟩
 ·skip
  split
  ·exact ha
  ·split<;>omega
 ·have hp:=C.lt p (aI h)
  have hr:=C.lt r (g.rng _ _ h);have n1:=C.ne _ _ h
  split<;>split<;>(try split)<;>(try split)<;>omega
def CC(w:W)(R:List Nat):Prop:=(∀p,p<w.length->p∉R->(row w p).length%2=0)->∃c,jQ w c
theorem CC.Qw{w:W}{a b:List Nat}(h:CC w (a++b)):CC w (b++a):=λev=>h λp hp n=>ev p hp λz=>n (List.perm_append_comm.mem_iff.mp z)
theorem ET:CC [[1,2],[2,0],[0,1]] [0,1,2]:=λ_=>⟨λp=>p,λp hp=>hp,λp q h e=>by
 subst e
 have:p<3:=aI h
 match p,this with
 |0,_=>revert h;decide
 |1,_=>revert h;decide
 |2,_=>revert h;decide⟩
theorem yw{w w':W}{R:List Nat}{f:Nat}(G:cB w R)(T:Step w w' R f)(h:CC w R):CC w' (bY R f w.length):=λev=>by
 have F:=nE G T;have M:=lC G T;have g:=G.g;have fn:=T.fn;have f1:=T.f1;have tl:=T.l
 obtain⟨c,C⟩:=h λp hp n=>by
  have nk:∀k,k<R.length->p≠R.getD k 0:=λk hk e=>n (by rw[e];exact F.z k hk)
  have:=ev p (by omega) λz=>by
   rcases(M.mem p).mp z with e|e| ⟨i,_,hi,e⟩
   ·exact nk 0 (by omega) e
   ·omega
   ·exact nk i hi e
  rw[T.ro p (by omega) λk hk=>nk k (by omega)] at this
  exact this
 have Rg:∀k,k+1<f->c (R.getD (k+2) 0)=c (R.getD k 0):=λk hk=>by
  have hx:=F.z (k+1) (by omega)
  have xl:=F.zlt (k+1) (by omega)
  have e1:(row w (R.getD (k+1) 0)).getD 0 0=R.getD (k+2) 0:=by rw[(G.hd _ hx).2,bA G.nd (by omega)]
  obtain⟨e2,e3⟩:=G.rK hx (F.z k (by omega)) (bA G.nd (by omega))
  have odd:=ev (R.getD (k+1) 0) (by omega) λz=>by
   rcases(M.mem _).mp z with e|e| ⟨i,h1,hi,e⟩
   ·have:=F.inj _ _ (by omega) (by omega) e;omega
   ·omega
   ·have:=F.inj _ _ (by omega) hi e;omega
  rw[T.rk (k+1) (by omega) (by omega),cx,wj] at odd
  generalize hl:row w (R.getD (k+1) 0)=l at e1 e2 e3 odd;have nl:l.Nodup:=by rw[<-hl];exact g.nod _
  have a:=alt (c:=c) (l:=l) (C.lt _ xl) (λx hx=>by
   rw[<-hl] at hx;exact⟨C.lt x (g.rng _ _ hx),λe=>C.ne _ x hx e.symm⟩) (λi hi=>by
   have hm:=br (l:=l) (i:=i) (by omega)
   have og:l.getD i 0∈row w (R.getD (k+1) 0):=by rw[hl];exact hm
   have na:¬kW R (l.getD i 0) (R.getD (k+1) 0):=λz=>by
    have:=lJ G.nd z.1 (F.z k (by omega)) (by rw[<-z.2,bA G.nd (by omega)])
    rw[<-e2] at this
    have:=getD_inj nl (by omega) (by omega) this
    omega
   have t:=EH g og (G.tri _ _ (g.sym _ _ og) na).1;rw[hl,bA nl hi] at t;exact C.ne _ _ t) ((l.length-1) / 2) (by omega)
  rw[show 2*((l.length-1) / 2)=l.length-1 by omega,e2,e1] at a
  exact a.symm
 have two:∀k,k<=f->c (R.getD k 0)=c (R.getD 0 0)\/c (R.getD k 0)=c (R.getD 1 0):=λk=>by
  induction k using Nat.strongRecOn with
  |_ k ih=>
   intro hk
   match k with
   |0=>exact .inl rfl
   |1=>exact .inr rfl
   |k+2=>
    rw[Rg k (by omega)]
    exact ih k (by omega) (by omega)
 have c0:=C.lt _ (F.zlt 0 (by omega))
 have c1:=C.lt _ (F.zlt 1 (by omega))
 have c01:c (R.getD 0 0)≠c (R.getD 1 0):=by
  have:=(G.hd _ (F.z 0 (by omega))).1
  rw[bA G.nd (by omega)] at this
  exact C.ne _ _ this
 refine⟨λp=>if p=w.length then 3-c (R.getD 0 0)-c (R.getD 1 0) else c p,λp hp=>?_,λp q hq=>?_⟩
 ·skip
  split
  ·omega
  ·exact C.lt p (by omega)
 ·skip
  by_cases e:p=w.length
  ·subst e
   obtain⟨k,hk,rfl⟩:=(F.dv q).mp hq
   have:=F.zlt k (by omega)
   rw[if_pos rfl,if_neg (by omega)]
   rcases two k hk with z|z<;>omega
  ·rcases(F.dx p e q).mp hq with d| ⟨rfl,k,hk,rfl⟩
   ·have:=g.rng _ _ d
    rw[if_neg e,if_neg (by omega)]
    exact C.ne _ _ d
   ·rw[if_neg e,if_pos rfl]
    rcases two k hk with z|z<;>omega
structure i9 (w:W):Prop where
 g:Good w
 tri:n5 w
 dg:fX w+12=6*w.length
 n3:3<=w.length
 cc:(∀p,p<w.length->(row w p).length%2=0)->∃c,jQ w c
theorem cB.TQ{w:W}{R:List Nat}(G:cB w R)(h:CC w R)(hd:fX w+2*R.length+6=6*w.length)(l3:R.length=3):i9 w:=
 ⟨G.g,λd hd=>G.three l3 hd,by omega,by have:=G.Qx;omega,λev=>h λp hp _=>ev p hp⟩
theorem i9.Qu{w F:W}{ns:List Nat}(h:i9 w)(pm:ns.Perm (List.range w.length))(N:tw w F λx=>ns.getD x 0):i9 F:=by
 have g:=h.g
 have ev:(∀p,p<F.length->(row F p).length%2=0)->∀p,p<w.length->(row w p).length%2=0:=λe p hp=>by
  have:=e _ (by rw[N.len];exact N.lt p hp)
  obtain⟨a,b,e1,e2⟩:=N.rows p hp;rw[e2,aG,cx,Nat.add_comm,<-cx,<-e1] at this;exact this
 refine⟨N.good g,λd hd=>?_,?_,by rw[N.len];exact h.n3,λe=>?_⟩
 ·obtain⟨x,y,ze,rfl⟩:=N.all g hd
  have d1:=gi g ze;have d2:=gi g d1;rw[N.Qd g ze,N.Qd g (x:=(bD w (x,y)).1) (y:=(bD w (x,y)).2) d1,N.Qd g (x:=(bD w (bD w (x,y))).1) (y:=(bD w (bD w (x,y))).2) d2]
  have:=h.tri _ ze
  rw[show bD w ((bD w (bD w (x,y))).1,(bD w (bD w (x,y))).2)=(x,y) from this]
 ·rw[G9 N.len pm λp hp=>by
   obtain⟨a,b,e1,e2⟩:=N.rows p hp;rw[e1,e2];exact(List.perm_append_comm (l₁:=b) (l₂:=a)).map _,N.len]
  exact h.dg
 ·obtain⟨c,C⟩:=h.cc (ev e)
  have inv:∀y,y<w.length->∃x,x<w.length/\ns.getD x 0=y:=N.onto;refine⟨λy=>if hy:y<w.length then c (inv y hy).choose else 0,λp hp=>?_,λp q hq=>?_⟩
  ·rw[N.len] at hp
   simp only[hp,dite_true];exact C.lt _ (inv p hp).choose_spec.1
  ·obtain⟨x,y,ze,e⟩:=N.all g (d:=(p,q)) hq
   have e1:p=ns.getD x 0:=congrArg Prod.fst e;have e2:q=ns.getD y 0:=congrArg Prod.snd e;have hx:=aI ze;have hy:=g.rng _ _ ze;have key:∀(z:Nat)(hz:z<w.length)(h':ns.getD z 0<w.length),(inv (ns.getD z 0) h').choose=z:=λz hz h'=>N.inj _ _ (inv _ h').choose_spec.1 hz (inv _ h').choose_spec.2;subst e1 e2;simp only[N.lt x hx,N.lt y hy,dite_true,key x hx,key y hy];exact C.ne _ _ ze
def BU(r:List Nat)(x:Nat)(ys:List Nat):List Nat:=r.take (r.idxOf x+1)++ys++r.drop (r.idxOf x+1)
def iG:W:= [[1,2],[2,0],[0,1]]
def dh(w:W)(a b:Nat):Nat:=au (row w b) a
def yV(w:W)(a b:Nat):W:=w.set a (BU (row w a) (dh w a b) [w.length+2,w.length])
def yW(w:W)(a b:Nat):W:=(yV w a b).set b (BU (row (yV w a b) b) a [w.length,w.length+1])
def Hh(w:W)(a b:Nat):W:=(yW w a b).set (dh w a b) (BU (row (yW w a b) (dh w a b)) b [w.length+1,w.length+2])
def nV(w:W)(a b:Nat):W:=Hh w a b++ [[b,a,w.length+2,w.length+1],[dh w a b,b,w.length,w.length+2],[a,dh w a b,w.length+1,w.length]]
def wY(w:W)(a b:Nat):W:=w.set (dh w a b) (BU (row w (dh w a b)) b [w.length+1,w.length])
def tS(w:W)(a b:Nat):W:=(wY w a b).set (dh w b a) (BU (row (wY w a b) (dh w b a)) a [w.length,w.length+1])
def tT(w:W)(a b:Nat):W:=(tS w a b).set a ((row (tS w a b) a).set ((row (tS w a b) a).idxOf b) w.length)
def F3(w:W)(a b:Nat):W:=(tT w a b).set b ((row (tT w a b) b).set ((row (tT w a b) b).idxOf a) (w.length+1))
def lE(w:W)(a b:Nat):W:=F3 w a b++ [[dh w b a,a,dh w a b,w.length+1],[dh w a b,b,dh w b a,w.length]]
def TJ(F:W->Nat->Nat->W)(L:List (W×List Nat))(cs:W->List Nat->Nat->Nat->List Nat):List (W×List Nat):=L.flatMap λx=>(ba x.1).map λd=>(F x.1 d.1 d.2,cs x.1 x.2 d.1 d.2)
def E8:List (W×List Nat):=TJ nV [(iG,[0,1,2])] λw c a b=>c++ [c.getD (dh w a b) 0,c.getD a 0,c.getD b 0]
def O4:List (W×List Nat):=TJ lE E8 λw c a b=>c++ [c.getD b 0,c.getD a 0]
def Qt(w:W):Nat->List Nat->List Nat
 |0,S=>S
 |k+1,S=>Qt w k (S++S.flatMap (row w))
theorem vL{w:W}:∀{k:Nat}{S:List Nat},(∀x∈S,Reach w 0 x)->∀x∈Qt w k S,Reach w 0 x
 |0,_,h=>h
 |k+1,S,h=>vL (k:=k) λx hx=>by
  rcases fK.mp hx with hx|hx
  ·exact h x hx
  ·obtain⟨y,hy,hx⟩:=oN.mp hx
   exact .step (h y hy) hx
def Hm(x:W×List Nat):Bool:=
 ((List.range x.1.length).all λp=>((row x.1 p).all λq=>decide (q<x.1.length)&&decide (q≠p)&&decide (p∈row x.1 q)&&decide (x.2.getD p 0≠x.2.getD q 0)&&decide (bD x.1 (bD x.1 (bD x.1 (p,q)))=(p,q)))&&decide (row x.1 p).Nodup&&decide (p∈Qt x.1 3 [0])&&decide (x.2.getD p 0<3))&&decide (fX x.1+12=6*x.1.length)&&decide (3<=x.1.length)
theorem uS{x:W×List Nat}(h:Hm x=true):i9 x.1:=by
 unfold Hm at h;rw[ma,ma,kO] at h;obtain⟨⟨h,hd⟩,hn⟩:=h;have hp:∀p,p<x.1.length->_:=λp hp=>h p (cT.mpr hp);simp only[ma,kO,decide_eq_true_eq] at hp;have ht:∀p q,q∈row x.1 p->_:=λp q hq=>(hp p (aI hq)).1.1.1 q hq;refine⟨⟨λp q hq=>(ht p q hq).1.1.1.1,λp hq=>(ht p p hq).1.1.1.2 rfl,λp=>?_,λp q hq=>(ht p q hq).1.1.2,λp kv=>?_⟩,λd hd=>(ht d.1 d.2 hd).2,of_decide_eq_true hd,of_decide_eq_true hn,λ_=>⟨λp=>x.2.getD p 0,λp kv=>(hp p kv).2,λp q hq=>(ht p q hq).1.2⟩⟩
 ·by_cases c:p<x.1.length
  ·exact(hp p c).1.1.2
  ·rw[vM (by omega)];exact ic
 ·refine vL (k:=3) (S:= [0]) (λy hy=>?_) p (hp p kv).1.2
  rw[jw.mp hy];exact .refl _
abbrev Gw(w:W)(a b:Nat):Prop:=(a<w.length/\b<w.length/\dh w a b<w.length/\w.length<=10)/\(a∈row w b/\dh w a b∈row w a/\a∈row (yV w a b) b/\b∈row (yW w a b) (dh w a b))/\(row w b).length<=20/\(row w a).length<=20/\(row (yV w a b) b).length<=20/\(row (yW w a b) (dh w a b)).length<=20
abbrev Gv(w:W)(a b:Nat):Prop:=(a<w.length/\b<w.length/\dh w a b<w.length/\dh w b a<w.length/\w.length<=10)/\(a∈row w b/\b∈row w a/\b∈row w (dh w a b)/\a∈row (wY w a b) (dh w b a)/\b∈row (tS w a b) a/\a∈row (tT w a b) b)/\(row w b).length<=20/\(row w a).length<=20/\(row w (dh w a b)).length<=20/\(row (wY w a b) (dh w b a)).length<=20/\(row (tS w a b) a).length<=20/\(row (tT w a b) b).length<=20
theorem FP:(ba iG).all (λd=>decide (Gw iG d.1 d.2))=true:=by decide+kernel
theorem yc:E8.all (λx=>decide (x.1.length=6)&&(ba x.1).all λd=>decide (Gv x.1 d.1 d.2))=true:=by decide+kernel
theorem Ie{a b:Nat}(h:(a,b)∈ba iG):∃c,(nV iG a b,c)∈E8:=⟨_,oN.mpr ⟨(iG,[0,1,2]),jw.mpr rfl,b8.mpr ⟨(a,b),h,rfl⟩⟩⟩
theorem Ig{w:W}{c:List Nat}{a b:Nat}(hc:(w,c)∈E8)(h:(a,b)∈ba w):∃c,(lE w a b,c)∈O4:=⟨_,oN.mpr ⟨(w,c),hc,b8.mpr ⟨(a,b),h,rfl⟩⟩⟩
theorem KI:((iG,[0,1,2])::(E8++O4)).all Hm=true:=by decide+kernel
theorem n5.rnd{w:W}(T:n5 w)(g:Good w){d:Nat×Nat}{r:List (Nat×Nat)}(h:jR w d r)(hd:bu w d):r= [d,bD w d,bD w (bD w d)]:=by
 obtain⟨k,k0,k1,k2,rfl⟩:=h;have t:fP w 3 d=d:=T d hd;have n1:bD w d≠d:=λz=>Aj g hd (congrArg Prod.fst z).symm;have n2:bD w (bD w d)≠d:=λz=>n1 (by have t':bD w (bD w (bD w d))=d:=t;rw[z] at t';exact t')
 have:k=3:=by
  apply Classical.byContradiction;intro z
  rcases Nat.lt_trichotomy k 3 with c|c|c
  ·match k,k0,c with
   |1,_,_=>exact n1 k1
   |2,_,_=>exact n2 k1
  ·exact z c
  ·exact k2 3 (by omega) c t
 subst this;rfl
theorem n5.back{w:W}(T:n5 w){p q:Nat}(hd:bu w (p,q)):bD w (q,au (row w q) p)=(au (row w q) p,p):=by
 have e:=T _ hd;have e1:au (row w (au (row w q) p)) q=p:=congrArg Prod.fst e;show(_,au (row w (au (row w q) p)) q)=_;rw[e1]
theorem n5.pts{w:W}(T:n5 w)(g:Good w){d e:Nat×Nat}{r:List (Nat×Nat)}(h:jR w d r)(hd:bu w d)(he:e∈r)(z:Nat):z∈r.map (·.1)↔z=e.1\/z=e.2\/z=au (row w e.2) e.1:=by
 have er:=T.rnd g h hd;subst er;obtain⟨p,q⟩:=d;have e1:bD w (p,q)=(q,au (row w q) p):=rfl;have e2:=T.back hd;have e3:au (row w (au (row w q) p)) q=p:=(congrArg Prod.snd e2)
 have e4:au (row w p) (au (row w q) p)=q:=by
  have:=T _ hd
  rw[e1,e2] at this;exact congrArg Prod.snd this
 rw[e1,e2] at he;simp only[cm,ia,or_false] at he;rw[e1,e2];show z∈ [p,q,au (row w q) p]↔_;simp only[cm,ia,or_false]
 rcases he with rfl|rfl|rfl
 ·exact Iff.rfl
 ·show _↔z=q\/z=au (row w q) p\/z=au (row w (au (row w q) p)) q
  rw[e3];exact⟨λh=>by rcases h with h|h|h<;>simp[h],λh=>by rcases h with h|h|h<;>simp[h]⟩
 ·show _↔z=au (row w q) p\/z=p\/z=au (row w p) (au (row w q) p)
  rw[e4];exact⟨λh=>by rcases h with h|h|h<;>simp[h],λh=>by rcases h with h|h|h<;>simp[h]⟩
theorem n5.three{w:W}(T:n5 w)(g:Good w){rs:List (List (Nat×Nat))}(R:bI w rs):∀r∈rs,r.length=3:=λr hr=>by
 obtain⟨d,h,hd,_⟩:=R.rnd r hr;rw[T.rnd g h hd];rfl
theorem vW{α:Type}:∀{rs:List (List α)},(∀r∈rs,r.length=3)->rs.flatten.length=3*rs.length
 | [],_=>rfl
 |r::rs,h=>by
  rw[nN,cx,h r (b6 ..),vW λx hx=>h x (bP _ hx),cw];omega
theorem i9.lands{w:W}(F:i9 w){rs:List (List (Nat×Nat))}(R:bI w rs):3*rs.length=fX w:=by
 rw[<-vW (F.tri.three F.g R),R.perm.length_eq,jd]
abbrev Os:=List (Option Nat)
def cY(os:Os)(p:Nat):Option Nat:=os.getD p none
def cz(os:Os)(l:List Nat):List Nat:=l.filter λp=>(cY os p).isNone
def bJ(os:Os)(l:List Nat):Os:=
 match cz os l with
 | [x]=>os.set x (some (3-((l.filter λp=>decide (p≠x)).map λp=>(cY os p).getD 0).sum))
 |_=>os
def wO(os:Os):Nat:=(os.filter Option.isNone).length
theorem En:∀{a b:Os},a.length=b.length->(∀i:Nat,b[i]? =some none->a[i]? =some none)->wO b<=wO a
 | [],[],_,_=>bC _
 |x::a,y::b,h,m=>by
  have ih:=En (a:=a) (b:=b) (by simpa using h) λi hi=>m (i+1) hi
  have:=m 0
  unfold wO at ih ⊢;cases x<;>cases y<;>simp at this ih ⊢ <;>omega
theorem Eo:∀{a b:Os}{i:Nat},a.length=b.length->(∀i:Nat,b[i]? =some none->a[i]? =some none)->a[i]? =some none->b[i]? ≠some none->wO b<wO a
 | [],[],i,_,_,h,_=>by simp at h
 |x::a,y::b,0,h,m,h1,h2=>by
  have:=En (a:=a) (b:=b) (by simpa using h) λi hi=>m (i+1) hi
  unfold wO at this ⊢;cases x<;>cases y<;>simp at h1 h2 this ⊢ <;>omega
 |x::a,y::b,i+1,h,m,h1,h2=>by
  have ih:=Eo (a:=a) (b:=b) (i:=i) (by simpa using h) (λi hi=>m (i+1) hi) h1 h2
  have:=m 0
  unfold wO at ih ⊢;cases x<;>cases y<;>simp at this ih ⊢ <;>omega
structure Dy (w:W) (c:Nat->Nat) (os:Os):Prop where
 l:os.length=w.length
 e:∀p k,os[p]? =some (some k)->k=c p
theorem get_none{os:Os}{p:Nat}(h:p<os.length):cY os p=none↔os[p]? =some none:=by
 unfold cY;rw[aV,bO h];cases os[p]<;>simp
theorem Dy.get{w:W}{c:Nat->Nat}{os:Os}(h:Dy w c os){p:Nat}(hp:p<w.length)(n:cY os p≠none):cY os p=some (c p):=by
 have kv:p<os.length:=by rw[h.l];exact hp
 unfold cY at n ⊢;rw[aV,bO kv] at n ⊢;cases e:os[p] with
 |none=>rw[e] at n;exact absurd rfl n
 |some k=>rw[h.e p k (by rw[bO kv,e])];rfl
theorem Iu{os:Os}{y x k:Nat}(h:y<os.length):cY (os.set y (some k)) x=if y=x then some k else cY os x:=by
 unfold cY;rw[aV,hZ]
 by_cases e:y=x
 ·subst e;rw[if_pos rfl,if_pos h,if_pos rfl];rfl
 ·rw[if_neg e,if_neg e,aV]
theorem Dy.set{w:W}{c:Nat->Nat}{os:Os}(h:Dy w c os){y k:Nat}(hk:c y=k):Dy w c (os.set y (some k)):=⟨by rw[dB];exact h.l,λp j hj=>by
 rw[hZ] at hj
 by_cases e:y=p
 ·subst e
  rw[if_pos rfl] at hj
  split at hj
  ·cases hj;exact hk.symm
  ·cases hj
 ·rw[if_neg e] at hj;exact h.e p j hj⟩
theorem nX{a b:Os}(hl:b.length=a.length)(h:∀i:Nat,b[i]? =some none->a[i]? =some none){x:Nat}(hx:x<a.length)(n:cY a x≠none):cY b x≠none:=λz=>n ((get_none hx).mpr (h x ((get_none (by rw[hl];exact hx)).mp z)))
theorem Dy.all{w:W}{c:Nat->Nat}{os:Os}(h:Dy w c os)(n:none∉os):os=(List.range w.length).map λp=>some (c p):=by
 refine wo λi=>?_
 by_cases hi:i<w.length
 ·have gJ:i<os.length:=by rw[h.l];exact hi
  rw[cA,oM hi,bO gJ];cases e:os[i] with
  |none=>exact absurd (by rw[<-e];exact wq gJ) n
  |some k=>rw[h.e i k (by rw[bO gJ,e])];rfl
 ·rw[fi (by rw[h.l];omega),fi (by rw[aG,iI];omega)]
theorem Gg{w:W}{c:Nat->Nat}(C:jQ w c)(g:Good w){os:Os}(h:Dy w c os){p q s:Nat}(h1:q∈row w p)(h2:s∈row w q)(h3:p∈row w s):
  Dy w c (bJ os [p,q,s])/\(∀i:Nat,(bJ os [p,q,s])[i]? =some none->os[i]? =some none)/\∀x∈ [p,q,s],(∀y∈ [p,q,s],y≠x->cY os y≠none)->cY (bJ os [p,q,s]) x≠none:=by
 have pl:=aI h1;have ql:=aI h2;have sl:=aI h3;have n1:p≠q:=λz=>g.irr p (by rw[<-z] at h1;exact h1)
 have n2:q≠s:=λz=>g.irr q (by rw[<-z] at h2;exact h2)
 have n3:s≠p:=λz=>g.irr s (by rw[<-z] at h3;exact h3)
 have cp:=C.lt p pl;have cq:=C.lt q ql;have cs:=C.lt s sl;have e1:=C.ne _ _ h1;have e2:=C.ne _ _ h2;have e3:=C.ne _ _ h3
 have put:∀x,x<w.length->cY os x=none->∀k,k=c x->Dy w c (os.set x (some k))/\(∀i:Nat,(os.set x (some k))[i]? =some none->os[i]? =some none)/\cY (os.set x (some k)) x≠none:=λx hx hb k hk=>by
  have qm:x<os.length:=by rw[h.l];exact hx
  refine⟨⟨by rw[dB];exact h.l,λi j hi=>?_⟩,λi hi=>?_,?_⟩
  ·rw[hZ] at hi
   by_cases z:x=i
   ·subst z
    rw[if_pos rfl,if_pos qm] at hi;cases hi;exact hk
   ·rw[if_neg z] at hi;exact h.e i j hi
  ·rw[hZ] at hi
   by_cases z:x=i
   ·subst z
    rw[if_pos rfl,if_pos qm] at hi;cases hi
   ·rw[if_neg z] at hi;exact hi
  ·unfold cY
   rw[aV,hZ,if_pos rfl,if_pos qm];simp
 have keep:(Dy w c os/\(∀i:Nat,os[i]? =some none->os[i]? =some none)):=⟨h,λ_ z=>z⟩;cases bp:cY os p with
 |none=>
  cases bq:cY os q with
  |none=>
   have e:bJ os [p,q,s]=os:=by
    unfold bJ cz;cases bs:cY os s<;>simp[gG,bp,bq,bs]
   rw[e];refine⟨h,λ_ z=>z,λx hx hy=>?_⟩;simp at hx
   rcases hx with rfl|rfl|rfl
   ·exact absurd bq (hy q (by simp) n1.symm)
   ·exact absurd bp (hy p (by simp) n1)
   ·exact absurd bp (hy p (by simp) n3.symm)
  |some kq=>
   cases bs:cY os s with
   |none=>
    have e:bJ os [p,q,s]=os:=by
     unfold bJ cz;simp[gG,bp,bq,bs]
    rw[e];refine⟨h,λ_ z=>z,λx hx hy=>?_⟩;simp at hx
    rcases hx with rfl|rfl|rfl
    ·exact absurd bs (hy s (by simp) n3)
    ·exact absurd bp (hy p (by simp) n1)
    ·exact absurd bp (hy p (by simp) n3.symm)
   |some ks=>
    have P6:=h.get ql (by rw[bq];simp)
    have P7:=h.get sl (by rw[bs];simp)
    have e:bJ os [p,q,s]=os.set p (some (3-(c q+c s))):=by
     unfold bJ cz;simp[gG,bp,P6,P7,n1.symm,n3]
    obtain⟨a,b,d⟩:=put p pl bp _ (show 3-(c q+c s)=c p by omega)
    rw[e];refine⟨a,b,λx hx hy=>?_⟩;simp at hx
    rcases hx with rfl|rfl|rfl
    ·exact d
    ·exact absurd bp (hy p (by simp) n1)
    ·exact absurd bp (hy p (by simp) n3.symm)
 |some kp=>
  have VE:=h.get pl (by rw[bp];simp)
  cases bq:cY os q with
  |none=>
   cases bs:cY os s with
   |none=>
    have e:bJ os [p,q,s]=os:=by
     unfold bJ cz;simp[gG,bp,bq,bs]
    rw[e];refine⟨h,λ_ z=>z,λx hx hy=>?_⟩;simp at hx
    rcases hx with rfl|rfl|rfl
    ·exact absurd bs (hy s (by simp) n3)
    ·exact absurd bs (hy s (by simp) n2.symm)
    ·exact absurd bq (hy q (by simp) n2)
   |some ks=>
    have P7:=h.get sl (by rw[bs];simp)
    have e:bJ os [p,q,s]=os.set q (some (3-(c p+c s))):=by
     unfold bJ cz;simp[gG,bq,VE,P7,n1,n2.symm]
    obtain⟨a,b,d⟩:=put q ql bq _ (show 3-(c p+c s)=c q by omega)
    rw[e];refine⟨a,b,λx hx hy=>?_⟩;simp at hx
    rcases hx with rfl|rfl|rfl
    ·exact absurd bq (hy q (by simp) n1.symm)
    ·exact d
    ·exact absurd bq (hy q (by simp) n2)
  |some kq=>
   have P6:=h.get ql (by rw[bq];simp)
   cases bs:cY os s with
   |none=>
    have e:bJ os [p,q,s]=os.set s (some (3-(c p+c q))):=by
     unfold bJ cz;simp[gG,bs,VE,P6,n3.symm,n2]
    obtain⟨a,b,d⟩:=put s sl bs _ (show 3-(c p+c q)=c s by omega)
    rw[e];refine⟨a,b,λx hx hy=>?_⟩;simp at hx
    rcases hx with rfl|rfl|rfl
    ·exact absurd bs (hy s (by simp) n3)
    ·exact absurd bs (hy s (by simp) n2.symm)
    ·exact d
   |some ks=>
    have e:bJ os [p,q,s]=os:=by
     unfold bJ cz;simp[gG,bp,bq,bs]
    rw[e];refine⟨h,λ_ z=>z,λx hx hy=>?_⟩;simp at hx
    rcases hx with rfl|rfl|rfl
    ·rw[bp];simp
    ·rw[bq];simp
    ·rw[bs];simp
theorem Dr{w:W}{c:Nat->Nat}(C:jQ w c)(g:Good w){os:Os}(h:Dy w c os){p q s:Nat}(h1:q∈row w p)(h2:s∈row w q)(h3:p∈row w s)(x:Nat)(hx:cz os [p,q,s]= [x]):(([p,q,s].filter λp=>decide (p≠x)).map λp=>(cY os p).getD 0).sum<=3:=by
 have pl:=aI h1;have ql:=aI h2;have sl:=aI h3;have n1:p≠q:=λz=>g.irr p (by rw[<-z] at h1;exact h1)
 have n2:q≠s:=λz=>g.irr q (by rw[<-z] at h2;exact h2)
 have n3:s≠p:=λz=>g.irr s (by rw[<-z] at h3;exact h3)
 have cp:=C.lt p pl;have cq:=C.lt q ql;have cs:=C.lt s sl;have e1:=C.ne _ _ h1;have e2:=C.ne _ _ h2;have e3:=C.ne _ _ h3
 have dy:∀y∈ [p,q,s],y≠x->cY os y≠none:=λy hy ne z=>by
  have:y∈cz os [p,q,s]:=ib.mpr ⟨hy,by rw[z];rfl⟩
  rw[hx] at this;exact ne (jw.mp this)
 have xm:x∈ [p,q,s]:=by
  have:x∈cz os [p,q,s]:=by rw[hx];exact jw.mpr rfl
  exact(ib.mp this).1
 simp only[cm,ia,or_false] at xm
 rcases xm with rfl|rfl|rfl
 ·have a:=h.get ql (dy q (by simp) n1.symm)
  have b:=h.get sl (dy s (by simp) n3)
  simp[gG,n1.symm,n3,a,b];omega
 ·have a:=h.get pl (dy p (by simp) n1)
  have b:=h.get sl (dy s (by simp) n2.symm)
  simp[gG,n1,n2.symm,a,b];omega
 ·have a:=h.get pl (dy p (by simp) n3.symm)
  have b:=h.get ql (dy q (by simp) n2)
  simp[gG,n3.symm,n2,a,b];omega
theorem n5.land{w:W}(T:n5 w)(g:Good w){rs:List (List (Nat×Nat))}(R:bI w rs){l:List Nat}(h:l∈dX rs):∃p q s,l= [p,q,s]/\q∈row w p/\s∈row w q/\p∈row w s:=by
 obtain⟨r,hr,rfl⟩:=b8.mp h;obtain⟨⟨p,q⟩,h1,hd,_⟩:=R.rnd r hr;have er:=T.rnd g h1 hd;have e2:=T.back hd;have d2:=gi g hd;have d3:=gi g d2;have e1:bD w (p,q)=(q,au (row w q) p):=rfl;rw[e1] at d2 d3;rw[e2] at d3;refine⟨p,q,au (row w q) p,?_,hd,d2,d3⟩;rw[er,e1,e2];rfl
theorem more{w:W}(T:n5 w)(g:Good w){rs:List (List (Nat×Nat))}(R:bI w rs){D:Nat->Prop}{a q:Nat}(hq:q∈row w a)(d0:D a)(dq:D q){b:Nat}(hb:b<w.length)(nb:¬D b):
  ∃r∈rs,∃x∈r.map (·.1),¬D x/\∀y∈r.map (·.1),y≠x->D y:=by
 apply Classical.byContradiction;intro no
 have full:∀p q,q∈row w p->D p->D q->∀x∈row w p,D x:=λp q hq dp dq=>Ab (g.nod p) hq dq λx hx dx=>by
  apply Classical.byContradiction;intro ny;have hd:bu w (x,p):=g.sym _ _ hx;obtain⟨r,hr,he⟩:=wu.mp (R.perm.mem_iff.mpr (b7.mpr hd));obtain⟨d,h1,h2,_⟩:=R.rnd r hr;have pt:=T.pts g h1 h2 he;refine no ⟨r,hr,au (row w p) x,(pt _).mpr (.inr (.inr rfl)),ny,λy hy ne=>?_⟩
  rcases(pt y).mp hy with z|z|z
  ·rw[z];exact dx
  ·rw[z];exact dp
  ·exact absurd z ne
 have:=pP g (aI hq) (S:=λp=>D p/\∀x∈row w p,D x) ⟨d0,full a q hq d0 dq⟩ λp q h hq=>⟨h.2 q hq,full q p (g.sym _ _ hq) (h.2 q hq) h.1⟩
 exact nb (this b hb).1
end Wb
set_option maxHeartbeats 4000000
namespace uf
open PySem L2 Wb
variable {P:Program} {w:World} {mg:Str->Option Value} {base:Heap} {Z:DC} (T:Txt Z mg)
open Wy
theorem jX(a b:Int)(h:0<b):0<=a%b/\a%b<b:=⟨Int.emod_nonneg _ (by omega),Int.emod_lt_of_pos _ h⟩
theorem wG{i j:Int}{P:D->Prop}{ρ:DN}(h:P (.bl (decide (i=j)))):dC (.int j) ρ (λb=>GR (.int i) b P):=Af h
theorem dj(w:W)(i:Nat)(r:List Nat):(w.map ar).set i (ar r)=(w.set i r).map ar:=by rw[wx]
theorem fW{α:Type}(l:List α)(k:Nat)(h:k<=l.length):cutD l (some (k:Int)) none=l.drop k:=by
 unfold cutD
 have e1:HT.bX l.length 0 (some (k:Int))=k:=by
  simp only[HT.bX]
  split<;>omega
 have e2:HT.bX l.length l.length none=l.length:=rfl;rw[e1,e2];exact EK (by simp)
theorem bW{w:W}{p:Nat}(h:p<w.length):fO (w.map ar) (p:Int)=some (ar (row w p)):=fB (nG h)
theorem g8{ns:List Nat}{p:Nat}(h:p<ns.length):fO (ns.map af) (p:Int)=some (af (ns.getD p 0)):=fB (by rw[cA,aV,bO h];rfl)
theorem xG{g:eO}{tb:cN}{E:gu}{n:Nat}{ρ:DN}(I:Nat->DN->Prop)(h0:I 0 ρ)(hs:∀(j:Nat)(ρ:DN),j<n->I j ρ->∀A:DN->Prop,(∀ρ,I (j+1) ρ->A ρ)->g (af j) ρ λbo=>tb {nx:=A,ct:=A,bk:=E.nx,rt:=E.rt,xc:=E.xc} bo)
  (he:∀ρ,I n ρ->E.nx ρ):ko g tb E (cW 0 n) ρ:=Ay I h0 (λj ρ hj h A hA=>by
 have:=hs j ρ hj h A hA
 unfold af at this;rw[Int.zero_add];exact this) he
theorem Fq(r:List Nat)(i x:Nat):ins (r.map af) i (af x)=(ins r i x).map af:=by
 unfold ins;simp[tj,qY]
def yI(n:Nat)(ns:List Nat):Prop:=ns.length=n/\ns.Nodup/\∀x∈ns,x<n
theorem vm{n:Nat}{ns:List Nat}(N:yI n ns){x:Nat}(h:x<n):x∈ns:=by
 apply Classical.byContradiction;intro hx
 have:(x::ns).length<=(List.range n).length:=aQ (eE.mpr ⟨hx,N.2.1⟩) λy hy=>by
  rcases cm.mp hy with rfl|hy
  ·exact cT.mpr h
  ·exact cT.mpr (N.2.2 y hy)
 rw[iI,cw,N.1] at this;omega
theorem zo{f:DN->Prop}{aA:DN}(ρ:DN)(e:aA=ρ)(h:f ρ):f aA:=by rw[e];exact h
theorem zl{x:Nat}:∀(ns:List Nat)(m:Nat),m<ns.idxOf x->ns[m]? ≠some x
 | [],m,h=>by simp at h
 |a::ns,m,h=>by
  rw[List.idxOf_cons] at h
  by_cases e:(a==x)=true
  ·rw[e] at h;simp at h
  ·rw[yF.mpr e] at h
   cases m with
   |zero=>intro z;simp at z;exact e (by simp[z])
   |succ m=>rw[we];exact zl ns m (by simpa using h)
theorem Cr{ns:List Nat}{x:Nat}{P:D->Prop}(h:x∈ns)(q:P (af (ns.idxOf x))):eS (af x)=true/\(ns.map af).all eS=true/\∃(j:Nat)(z:D),(ns.map af)[j]? =some z/\iE z (af x)=true/\(∀(m:Nat) z,m<j->(ns.map af)[m]? =some z->iE z (af x)=false)/\P (.int (j:Nat)):=by
 have hl:=wc.mpr h;have e:ns[ns.idxOf x]? =some x:=by rw[bO hl];exact congrArg some (zQ hl)
 refine⟨rfl,bz _,ns.idxOf x,af x,by rw[cA,e];rfl,by simp[iE,af],λm z hm hz=>?_,q⟩
 obtain⟨y,hy,rfl⟩:=bN hz
 have:y≠x:=by
  rintro rfl;exact zl _ _ hm hy
 have:¬((y:Int)=(x:Int)):=by omega
 simpa [iE,af] using this
theorem bB{ns:List Nat}{x:Nat}(h:x∈ns):(ns.map af)[ns.idxOf x]? =some (af x)/\iE (af x) (af x)=true/\∀(m:Nat) z,m<ns.idxOf x->(ns.map af)[m]? =some z->iE z (af x)=false:=by
 have:=Cr (P:=λd=>d=af (ns.idxOf x)) h rfl
 obtain⟨_,_,j,z,h1,h2,h3,h4⟩:=this;have hl:=wc.mpr h;have e:ns[ns.idxOf x]? =some x:=by rw[bO hl];exact congrArg some (zQ hl)
 refine⟨by rw[cA,e];rfl,by simp[iE,af],λm z hm hz=>?_⟩
 obtain⟨y,hy,rfl⟩:=bN hz
 have:y≠x:=by
  rintro rfl;exact zl _ _ hm hy
 have:¬((y:Int)=(x:Int)):=by omega
 simpa [iE,af] using this
theorem C9(n:Nat):cW 0 n=(List.range n).map λ(x:Nat)=>af x:=by unfold cW af;simp
theorem vK{α:Type}{f:α->D}{g:α->PyData}(h:∀a,(f a).py=some (g a)):∀l:List α,gD (l.map f)=some (l.map g)
 | []=>rfl
 |a::l=>by
  have:=vK h l
  rw[iJ,gD,h a,this];rfl
theorem Ey(r:List Nat):(ar r).py=some (qF r):=by
 unfold ar qF;rw[D.py,vK (g:=nD) (λn=>rfl)];rfl
theorem Hi(a b:List Nat):PyData.eqv (qF a) (qF b)=decide (a=b):=by
 by_cases e:a=b
 ·rw[decide_eq_true e];exact(xr a b).mpr e
 ·rw[decide_eq_false e]
  apply yF.mpr;exact λz=>e ((xr a b).mp z)
theorem GV{v w:List Nat}{P:D->Prop}(h:P (.bl (!decide (v=w)))):B2 (ar v) (ar w) P:=by
 refine⟨_,_,Ey v,Ey w,by have:=Al v;omega,?_⟩
 rw[if_pos rfl,Hi];exact h
theorem FC{i j:Int}{P:D->Prop}{ρ:DN}(h:P (.bl (!decide (i=j)))):dC (.int j) ρ (λb=>B2 (.int i) b P):=uE h
variable {P:Program} {w:World} {mg:Str->Option Value} {base:Heap} {Z:DC} (T:Txt Z mg)
def pA(k:Nat×Nat):PyData:= .tuple [nD k.1,nD k.2]
theorem Ji(k:Nat×Nat):(pairD k).py=some (pA k):=by
 unfold pairD;rw[D.py,gD,gD,gD];rfl
theorem xq(a b:Nat×Nat):PyData.eqv (pA a) (pA b)=true↔a=b:=by
 unfold pA nD;simp[PyData.eqv,PyData.eqvAll]
 constructor
 ·rintro⟨h1,h2⟩;exact Prod.ext (by omega) (by omega)
 ·rintro rfl;exact⟨rfl,rfl⟩
variable {P:Program} {w:World} {mg:Str->Option Value} {base:Heap} {Z:DC} (T:Txt Z mg)
def zz(d:Nat×Nat):Int×Int:=(d.1,d.2)
theorem Mz{a b:Nat×Nat}(h:zz a=zz b):a=b:=Prod.ext (by have:=(Prod.mk.inj h).1;omega) (by have:=(Prod.mk.inj h).2;omega)
theorem EL{d:Nat×Nat}{l:List (Nat×Nat)}:zz d∈l.map zz↔d∈l:=by
 rw[b8];exact⟨λ⟨a,ha,e⟩=>by rw[<-Mz e];exact ha,λh=>⟨d,h,rfl⟩⟩
def Mf:b9:=λds P=>∃(w:W),ds= [.dA w]/\Good w/\w.length<=14/\fX w<64/\∀ts:List (Nat×Nat),ts.Perm (iS (row w) w.length)->ts.Pairwise lexLe->P (.lst (ts.map pairD))
theorem NF{g:eO}{eC:g5}{g1:eO}{dz:dS}{te:bg}{α β γ:Type}(I:DN->Prop)(J:α->DN->Prop)(enc:α->D)(f:α->List β)(iD:β->D)(p:α->β->Bool)(k:α->β->γ)(mI:γ->D)(JI:∀y ρ,J y ρ->I ρ):∀(ys:List α)(aA:DN)(acc:List γ)(P:List D->Prop),
  (∀y∈ys,∀aA,I aA->∀(Y:DN->List D->Prop),(∀bo,J y bo->Y bo ((f y).map iD))->g (enc y) aA λbo=>eC bo (Y bo))->
  (∀y∈ys,∀b∈f y,∀aA,J y aA->∀(Y:DN->D->Prop)(Nn:DN->Prop),(∀bo,J y bo->p y b=true->Y bo (mI (k y b)))->(∀bo,J y bo->p y b=false->Nn bo)->g1 (iD b) aA λbo=>dz bo λc=>if c=true then te bo (Y bo) else Nn bo)->
  I aA->acc.length+(ys.flatMap λy=>((f y).filter (p y)).map (k y)).length<=sizeLine->(∀y∈ys,acc.length+(ys.flatMap λy=>((f y).filter (p y)).map (k y)).length+(f y).length<=sizeLine)->P ((acc++ys.flatMap λy=>((f y).filter (p y)).map (k y)).map mI)->lN g kd eC g1 dz te (ys.map enc) aA (acc.map mI) P
 | [],aA,acc,P,_,_,hI,_,_,h=>by
  show P (acc.map mI);simpa using h
 |y::ys,aA,acc,P,h1,h2,hI,hz,hy,h=>by
  have hy0:=hy y (b6 ..);rw[nO,cx] at hz hy0;refine h1 y (b6 ..) aA hI (λbo es=>lcW g1 dz te es bo (acc.map mI) λdQ pN=>lN g kd eC g1 dz te (ys.map enc) dQ pN P) λbo hJ1=>?_;refine iP (J y) iD (p y) (λb=>mI (k y b)) (f y) bo (acc.map mI) _ (λb hb dQ Pk Y Nn hY hN=>?_) hJ1 (by rw[aG];omega) λdQ Pk=>?_
  ·exact h2 y (b6 ..) b hb dQ Pk Y Nn hY hN
  ·have e:acc.map mI++((f y).filter (p y)).map (λb=>mI (k y b))=(acc++((f y).filter (p y)).map (k y)).map mI:=by rw[dO,eF];rfl
   rw[e];refine NF I J enc f iD p k mI JI ys dQ (acc++((f y).filter (p y)).map (k y)) P (λz hz=>h1 z (bP _ hz)) (λz hz=>h2 z (bP _ hz)) (JI y dQ Pk) (by rw[cx];omega) (λz hz=>?_) ?_
   ·have:=hy z (bP _ hz)
    rw[nO,cx] at this;rw[cx];omega
   ·rw[nO] at h
    rw[td];exact h
theorem lj:FnOk P w Z.K mg base bQ 1 T.m_ties.f T.m_ties.fd ["self"] (aM Z Mf):=by
 have nd:=qJ.nd;refine aP T.m_ties.F qJ [0] (by decide) (λds R h=>by obtain⟨_,rfl,_⟩:=h;rfl) (λbh A outer s H E ds R hr h=>?_)
 have hu:=hr.units;refine⟨_,(ao (aL (aD (uA hu) rfl T.B.sorted oP (ab (Ku (NC:= ["p","row","q"]) (src:= [none,none,none]) rfl (mh (aq jJ)) trivial (cD rfl T.B.enumerate (ab (pV T.W (aa 0)) ae)) (λ_ _ _=>(tZ 2 rfl (gh (bE 0 (show(["p","row","q"]:List Str).Nodup from by decide+kernel)) (gh (bE 1 (show(["p","row","q"]:List Str).Nodup from by decide+kernel)) pY)))) (λ_ _ _=>cE) (λ_ _ _=>(bF (aa 1))) (λ_ _ _=>(bE 2 (show(["p","row","q"]:List Str).Nodup from by decide+kernel))) (λ_ _ _=>(p5 (aS zr (aa 0) (aa 2) (bf _)))) (λ_ _ _=>(fE (ab (aa 0) (ab (aa 2) ae))))) ae)))),?_⟩
 obtain⟨w',rfl,g,f6,Ac,q⟩:=h;have th:=vY g
 have ee:gw (w'.map ar)=(List.range w'.length).map λ(j:Nat)=>D.tup [.int (j:Int),ar (row w' j)]:=by
  refine wo λj=>?_;rw[cA]
  by_cases lt:j<w'.length
  ·rw[oM lt]
   cases e:(gw (w'.map ar))[j]? with
   |none=>
    have:=List.getElem?_eq_none_iff.mp e
    rw[fo,aG] at this;omega
   |some d=>rw[(sX e).2];rfl
  ·rw[fi (by rw[fo,aG];omega),fi (by rw[iI];omega)];rfl
 have tb:((List.range w'.length).flatMap λp=>((row w' p).filter λq=>decide (p<q)).map λq=>(p,q))=iS (row w') w'.length:=rfl
 have fl:∀n,n<=w'.length->(iS (row w') n).length<=n*14:=λn=>by
  induction n with
  |zero=>intro _;exact bC _
  |succ n ih=>
   intro h
   have:=ih (by omega)
   have h2:=dZ g n;have h3:=List.length_filter_le (λq=>decide (n<q)) (row w' n);unfold iS at this ⊢;rw[List.range_succ,List.flatMap_append,cx];simp only[nO,BO,kP,aG];omega
 have fl0:=fl w'.length (bC _);refine⟨_,rfl,w',rfl,?_⟩;refine(?_:lN _ _ _ _ _ _ (gw (w'.map ar)) _ _ _);rw[ee];refine NF (λρ=>∃o0 o1 o2,ρ= [o0,o1,o2]) (λp ρ=>∃o2,ρ= [some (af p),some (ar (row w' p)),o2]) _ (λp=>row w' p) af (λp q=>decide (p<q)) (λp q=>(p,q)) pairD (λy ρ ⟨o2,e⟩=>⟨_,_,_,e⟩) (List.range w'.length) _ [] _ (λp hp aA hI Y hY=>?_) (λp hp b hb aA hI Y Nn hY hN=>?_) ⟨none,none,none,rfl⟩ ?_ (λp hp=>?_) ?_
 ·obtain⟨o0,o1,o2,rfl⟩:=hI
  exact⟨rfl,rfl,_,rfl,hY _ ⟨_,rfl⟩⟩
 ·obtain⟨o2,rfl⟩:=hI
  refine⟨_,rfl,_,rfl,_,rfl,?_⟩;refine(?_:if decide ((p:Int)<(b:Int))=true then _ else _);rw[show decide ((p:Int)<(b:Int))=decide (p<b) from decide_eq_decide.mpr (by omega)]
  exact cH (λe=>⟨_,rfl,_,rfl,by show 2<=sizeLine;decide,hY _ ⟨_,rfl⟩ e⟩) (λe=>hN _ ⟨_,rfl⟩ e)
 ·rw[tb,List.length_nil,r8];exact small (by omega)
 ·have:=dZ g p
  rw[tb,List.length_nil,r8];exact small (by omega)
 ·rw[tb,qX]
  exact⟨_,rfl,by omega,q⟩
def F5:b9:=λds P=>∃(w:W)(p q:Nat),ds= [.dA w,af p,af q]/\Good w/\q∈row w p/\P (af (au (row w p) q))
theorem mP:FnOk P w Z.K mg base bQ 1 T.m_behind.f T.m_behind.fd ["self","p","q"] (aM Z F5):=by
 have nd:=mX.nd;refine aP T.m_behind.F mX [0,0,0,0] (by decide) (λds R h=>by obtain⟨_,_,_,rfl,_⟩:=h;rfl) (λbh A outer s H E ds R hr h=>?_)
 have hu:=hr.units
 refine⟨_,(ah (aH false 3 nd (aO (pV T.W (aa 0)) (aa 1)))
   (ao (aL (aO (aa 3) (ax cV (ax aN (ke (aa 3) (aa 2)) ai) (aD aZ rfl T.B.len aY (ab (aa 3) ae))))))),?_⟩
 obtain⟨w',p,q',rfl,g,hq,q⟩:=h;have hp:=aI hq;have rl:=dZ g p;have lr:((row w' p).map af).length=(row w' p).length:=aG _;have pos:0<(row w' p).length:=yD hq;have e0:(0:Int)<(((row w' p).map af).length:Int):=by rw[lr];omega
 refine⟨_,rfl,w',rfl,_,rfl,_,bW hp,trivial,?_⟩;refine⟨_,rfl,_,rfl,_,rfl,_,rfl,rfl,bz _,_,_,(bB hq).1,(bB hq).2.1,(bB hq).2.2,?_⟩;refine⟨_,rfl,e0,?_⟩;have em:(((row w' p).idxOf q':Nat):Int)+1=(((row w' p).idxOf q'+1:Nat):Int):=by omega
 have et:((((row w' p).idxOf q':Nat):Int)+1)%(((row w' p).map af).length:Int)=((((row w' p).idxOf q'+1)%(row w' p).length:Nat):Int):=by rw[lr,em,Int.natCast_emod]
 refine⟨af (au (row w' p) q'),?_,q⟩;show fO ((row w' p).map af) ((λi j=>i%j) _ _)=_;dsimp only;rw[et];exact g8 (tm _ pos)
theorem EX{a b:Nat×Nat}{P:D->Prop}(h:P (.bl (!decide (a=b)))):B2 (pairD a) (pairD b) P:=by
 refine⟨_,_,Ji a,Ji b,by unfold pA nD;simp[PyData.depth,PyData.depthAll],?_⟩
 have:PyData.eqv (pA a) (pA b)=decide (a=b):=by
  by_cases e:a=b
  ·rw[decide_eq_true e];exact(xq a b).mpr e
  ·rw[decide_eq_false e]
   apply yF.mpr;exact λz=>e ((xq a b).mp z)
 rw[if_pos rfl,this];exact h
def JF:b9:=λds P=>∃(w:W)(d:Nat×Nat),ds= [.dA w,pairD d]/\Good w/\w.length<=14/\bu w d/\∀r,jR w d r->P (.lst (r.map pairD))
theorem vD:FnOk P w Z.K mg base bQ 2 T.d_round_from.f T.d_round_from.fd ["web","side"] (aM Z JF):=by
 have nd:=nq.nd;refine aP T.d_round_from.F nq [0,0,1,0,0] (by decide) (λds R h=>by obtain⟨_,_,rfl,_⟩:=h;rfl) (λbh A outer s H E ds R hr h=>?_)
 have hu:=hr.units
 refine⟨_,(ah (kX 2 nd (fh (ab (aa 1) ae)))
   (ah (yU (aa 1) (cU 2 rfl (aF (aB 3 nd) (aF (aB 4 nd) bK))))
   (ah (D8 3 4 rfl nd (ab (aa 4) (ab (Ak T.W (aa 0) T.m_behind.m (mP T) (hr.mono (by decide)) T.m_behind.b (ab (aa 4) (ab (aa 3) ae))) ae)))
   (ah (nU PassesOwn.never (aS (rQ hu) (fE (ab (aa 3) (ab (aa 4) ae))) (aa 1) (bf _)) (ah (t4 false 2 (fE (ab (aa 3) (ab (aa 4) ae))))
   (ao (D8 3 4 rfl nd (ab (aa 4) (ab (Ak T.W (aa 0) T.m_behind.m (mP T) (hr.mono (by decide)) T.m_behind.b (ab (aa 4) (ab (aa 3) ae))) ae))))))
   (ao (aL (aa 2))))))),?_⟩
 obtain⟨w',d,rfl,g,f6,hd,q⟩:=h;have c1:=uF g;have c2:w'.length*w'.length<=14*14:=Nat.mul_le_mul f6 f6;refine⟨_,rfl,by show 1<=sizeLine;decide,?_⟩
 refine⟨_,rfl,rfl,rfl,?_⟩;refine⟨_,rfl,_,rfl,w',rfl,_,rfl,_,rfl,w',d.2,d.1,rfl,g,g.sym _ _ hd,_,_,rfl,?_⟩;refine lK (λm ρ=>∃k,0<k/\m+k=(ba w').length+1/\(∀j,0<j->j<k->fP w' j d≠d)/\ρ= [some (.dA w'),some (pairD d),some (.lst ((walk w' d k).map pairD)),some (af (fP w' k d).1),some (af (fP w' k d).2)]) (ba w').length ⟨1,by omega,rfl,λj h1 h2=>by omega,rfl⟩ ?_
 rintro m _ ⟨k,k0,hm,hk,rfl⟩;have hde:=iX g hd k;refine⟨_,rfl,_,rfl,by show 2<=sizeLine;decide,_,rfl,?_⟩
 refine(?_:B2 (pairD (fP w' k d)) (pairD d) _);refine EX ⟨_,rfl,cH (λe=>?_) (λe=>?_)⟩
 ·have ne:fP w' k d≠d:=by simpa using e
  have lt:k<(ba w').length:=by
   have:=JX g hd (k:=k+1) λj h1 h2=>by
    by_cases c:j=k
    ·subst c;exact ne
    ·exact hk j h1 (by omega)
   omega
  refine⟨_,rfl,_,rfl,_,rfl,by show 2<=sizeLine;decide,trivial,f7 (by rw[aG,yy];omega),?_⟩
  refine⟨_,rfl,_,rfl,w',rfl,_,rfl,_,rfl,w',(fP w' k d).2,(fP w' k d).1,rfl,g,g.sym _ _ hde,_,_,rfl,?_⟩;refine⟨m-1,by omega,k+1,by omega,by omega,λj h1 h2=>?_,?_⟩
  ·by_cases c:j=k
   ·subst c;exact ne
   ·exact hk j h1 (by omega)
  ·rw[Dx,dO];rfl
 ·have e:fP w' k d=d:=by simpa using e
  exact⟨_,rfl,q _ ⟨k,k0,e,hk,rfl⟩⟩
def t9(rs:List (List (Nat×Nat))):D:= .lst ((rs.map λr=>r.map (·.1)).map ar)
def JB:b9:=λds P=>∃(w:W),ds= [.dA w]/\Good w/\1<=w.length/\w.length<=14/\fX w<64/\(w.length=1->P (.lst [ar [0]]))/\(2<=w.length->∀rs,bI w rs->jW w=dX rs->P (.lst ((jW w).map ar)))
theorem Fp{l:List (Nat×Nat)}{d:Nat×Nat}(h:d∉l):AI (l.map zz) (zz d)=(l++ [d]).map zz:=by
 unfold AI;rw[if_neg (λz=>h (EL.mp z)),dO];rfl
theorem pq:FnOk P w Z.K mg base bQ 3 T.d_lands.f T.d_lands.fd ["web"] (gB Z 2 JB):=by
 have nd:=yp.nd;refine kn 2 T.d_lands.F yp [0,98,2,0,0,0] (by decide) (λds R h=>by obtain⟨_,rfl,_⟩:=h;rfl) (λbh A outer s H E ds R hr h=>?_)
 have hu:=hr.units
 refine⟨_,(ah (bM (aS (il hu) (di T.W (aa 0) T.m_many.m (eW T) (hr.mono (by decide)) T.m_many.b) ai (bf _)) (ao (An (Kw (fh (ab ai ae))))) aX)
   (ah (E4 1 nd rfl T.x_set)
   (ah (kX 2 nd (Hc 1))
   (ah (bR rfl PassesOwn.never (bF (aD (uA hu) rfl T.B.sorted oP (ab (ax aN (di T.W (aa 0) T.m_ties.m (lj T) (hr.mono (by decide)) T.m_ties.b) (oS (NC:= ["a","b"]) (src:= [none,none]) rfl (mh (aq mW)) trivial (bF (di T.W (aa 0) T.m_ties.m (lj T) (hr.mono (by decide)) T.m_ties.b)) (λ_ _ _=>(tZ 2 rfl (gh (bE 0 (show(["a","b"]:List Str).Nodup from by decide+kernel)) (gh (bE 1 (show(["a","b"]:List Str).Nodup from by decide+kernel)) pY)))) (λ_ _ _=>cE) (λ_ _ _=>(fE (ab (aa 1) (ab (aa 0) ae)))))) ae))) (aB 3 nd) (ao (bM (aS (CQ hu) (aa 3) (aa 1) (by with_unfolding_all rfl)) (ah (aH false 4 nd (aE T.d_round_from (vD T) hr (ab (aa 0) (ab (aa 3) ae))))
   (ah (bR rfl PassesOwn.never (bF (aa 4)) (aB 5 nd) (ao (Hf false 1 hu (aa 5))))
   (ao (E3 2 (Hb (NC:= ["p","q"]) (src:= [none,none]) rfl (mh (aq mW)) trivial (bF (aa 4)) (λ_ _ _=>(tZ 2 rfl (gh (bE 0 (show(["p","q"]:List Str).Nodup from by decide+kernel)) (gh (bE 1 (show(["p","q"]:List Str).Nodup from by decide+kernel)) pY)))) (λ_ _ _=>cE) (λ_ _ _=>(aa 0))))))) aX)))
   (ao (Ap 2 hu rfl T.B.sorted)))))),?_⟩
 obtain⟨w',rfl,g,h1,f6,Ac,q1,q2⟩:=h;have c1:=uF g;have c3:=jd w';have c2:w'.length*w'.length<=14*14:=Nat.mul_le_mul f6 f6;have lw:(w'.map ar).length=w'.length:=aG _;refine⟨_,rfl,w',rfl,w',rfl,?_⟩;refine wG ⟨_,rfl,cH (λe=>?_) (λe=>?_)⟩
 ·have e:w'.length=1:=by have:=of_decide_eq_true e;omega
  exact⟨by show 1<=sizeLine;decide,q1 e⟩
 have n2:2<=w'.length:=by have:=of_decide_eq_false e;omega
 refine⟨by show 0<=sizeLine;decide,?_⟩
 refine⟨_,rfl,w',rfl,w',rfl,g,f6,Ac,λts pm zH=>?_⟩;have tl:=vY g;rw[<-jd] at tl;have tl2:=pm.length_eq;refine⟨_,rfl,w',rfl,w',rfl,g,f6,Ac,λBA LU NQ=>?_⟩;have e2:BA=ts:=List.Perm.eq_of_pairwise (λ_ _ _ _=>xS) NQ zH (LU.trans pm.symm);subst e2;refine iP (λρ=>∃o0 o1,ρ= [o0,o1]) pairD (λ_=>true) (λt=>pairD (t.2,t.1)) BA _ [] _ (λt ht aA hI Y Nn hY hN=>?_) ⟨none,none,rfl⟩ (by rw[List.length_nil,r8];exact small (by omega)) λaA hI=>?_
 ·obtain⟨o0,o1,rfl⟩:=hI
  exact⟨rfl,rfl,J3 ⟨_,rfl,_,rfl,by show 2<=sizeLine;decide,hY _ ⟨_,_,rfl⟩ rfl⟩⟩
 have pd:=ux g pm;have pl:=pd.length_eq;rw[cx,aG] at pl;have ef:BA.filter (λ_=>true)=BA:=by simp
 rw[qX,ef];refine⟨by rw[aG,aG];exact small (by omega),?_⟩
 have ej:(.lst (BA.map pairD++BA.map λt=>pairD (t.2,t.1)):D)= .lst ((BA++BA.map λt=>(t.2,t.1)).map pairD):=by rw[dO,eF];rfl
 dsimp only[cZ];rw[ej];refine⟨_,rfl,by rw[cx,aG];omega,λds LV Yb=>?_⟩
 have LV:=LV.trans pd;have all:∀e,bu w' e->e∈ds:=λe h=>LV.mem_iff.mpr (b7.mpr h);have D5:∀e∈ds,bu w' e:=λe h=>b7.mp (LV.mem_iff.mp h);clear pm LU zH NQ ej pd ef;refine bx (λi ρ=>∃(rs:List (List (Nat×Nat)))(o3 o4 o5:Option D),ρ= [some (.dA w'),some (.x (.qD (fV w) (rs.flatten.map zz))),some (t9 rs),o3,o4,o5]/\Wk w' ds i rs) ⟨[],none,none,none,rfl,Wk.zero w' ds⟩ ?_ ?_
 ·rintro i d _ hd ⟨rs,o3,o4,o5,rfl,hw⟩ A hA
  obtain⟨e,he,rfl⟩:=bN hd;have de:=D5 e (e9 he);refine⟨_,rfl,_,rfl,zz e,rs.flatten.map zz,rfl,rfl,_,rfl,?_⟩;refine(?_:if (if true=true then !decide (zz e∈rs.flatten.map zz) else _)=true then _ else _);rw[if_pos rfl,show decide (zz e∈rs.flatten.map zz)=decide (e∈rs.flatten) from decide_eq_decide.mpr EL]
  have sub:∀x∈rs.flatten,x∈ba w':=λx hx=>by
   obtain⟨r,hr,hxr⟩:=wu.mp hx;obtain⟨d,R,dd,_⟩:=hw.rnd r hr;exact b7.mpr (R.ba g dd x hxr)
  have fl:=aQ hw.nod sub;refine cH (λc=>?_) (λc=>?_)
  ·have c:e∉rs.flatten:=by simpa using c
   refine⟨_,rfl,_,rfl,w',e,rfl,g,f6,de,λr R=>⟨trivial,?_⟩⟩;have UQ:=hw.take g all D5 Yb he c R;have rd:∀x∈r,x∈ba w':=λx hx=>b7.mpr (R.ba g de x hx);have rl:=aQ (R.nodup g de) rd;have Qa:(rs.flatten++r).Nodup:=by have:=UQ.nod;rw[zO] at this;simpa using this
   have fl2:(rs.flatten++r).length<=(ba w').length:=aQ Qa λx hx=>(fK.mp hx).elim (sub x) (rd x);rw[cx] at fl2;refine⟨_,rfl,?_⟩;refine bx (λk ρ=>∃o5,ρ= [some (.dA w'),some (.x (.qD (fV w) ((rs.flatten++r.take k).map zz))),some (t9 rs),some (pairD e),some (.lst (r.map pairD)),o5]) ⟨o5,by rw[List.take_zero,kP];rfl⟩ ?_ ?_
   ·rintro k d _ hd ⟨o5,rfl⟩ A hA
    obtain⟨x,hx,rfl⟩:=bN hd;have hk:=(dE.mp hx).1;have tk:r.take (k+1)=r.take k++ [x]:=by rw[wb,hx];rfl
    have nx:x∉rs.flatten++r.take k:=λz=>by
     have sp:rs.flatten++r=(rs.flatten++r.take k)++(x::r.drop (k+1)):=by
      rw[td,<-dE.mp hx|>.2,List.getElem_cons_drop,yE]
     rw[sp] at Qa;exact(gF.mp Qa).2.2 x z x (b6 ..) rfl
    refine⟨_,rfl,_,rfl,zz x,rfl,by rw[aG,cx,eD];omega,?_⟩
    rw[Fp nx,td,<-tk];exact hA _ ⟨_,rfl⟩
   ·rintro _ ⟨o5,rfl⟩
    rw[aG,yG]
    have dl:rs.length<=300:=by
     have h:∀iw:List (List (Nat×Nat)),(∀r∈iw,r≠ [])->iw.length<=iw.flatten.length:=λiw=>by
      induction iw with
      |nil=>intro _;exact bC _
      |cons a l ih=>
       intro h;have h1:=zP.mpr (h a (b6 ..));have h2:=ih λr hr=>h r (bP _ hr);rw[nN,cx,cw];omega
     have:=h rs λr hr z=>by
      obtain⟨d,R,_,_⟩:=hw.rnd r hr
      have:=R.first
      rw[z] at this;cases this
     omega
    refine⟨_,rfl,_,rfl,?_⟩;refine iP (λρ=>∃o0 o1,ρ= [o0,o1]) pairD (λ_=>true) (λt=>af t.1) r _ [] _ (λt ht aA hI Y Nn hY hN=>?_) ⟨none,none,rfl⟩ (by rw[List.length_nil,r8];exact small (by omega)) λaA hI=>?_
    ·obtain⟨o0,o1,rfl⟩:=hI
     exact⟨rfl,rfl,J3 ⟨_,rfl,hY _ ⟨_,_,rfl⟩ rfl⟩⟩
    rw[qX,show r.filter (λ_=>true)=r by simp]
    refine⟨f7 (by rw[aG,aG];omega),?_⟩
    refine hA _ ⟨rs++ [r],some (pairD e),some (.lst (r.map pairD)),o5,?_,UQ⟩
    have e1:t9 (rs++ [r])= .lst ((rs.map λr=>r.map (·.1)).map ar++ [.lst (r.map λt=>af t.1)]):=by
     unfold t9 ar;rw[dO,dO];simp only[iJ,List.map_nil,eF];rfl
    rw[e1,zO,show[r].flatten=r by simp];rfl
  ·have c:e∈rs.flatten:=by simpa using c
   exact hA _ ⟨rs,_,_,_,rfl,hw.skip he c⟩
 ·rintro _ ⟨rs,o3,o4,o5,rfl,hw⟩
  have hw:Wk w' ds ds.length rs:=by rw[aG] at hw;exact hw
  have fin:=hw.fin g all;have R:bI w' rs:=⟨hw.rnd,fin⟩
  have dl:rs.length<64:=by
   have h:∀iw:List (List (Nat×Nat)),(∀r∈iw,r≠ [])->iw.length<=iw.flatten.length:=λiw=>by
    induction iw with
    |nil=>intro _;exact bC _
    |cons a l ih=>
     intro h;have h1:=zP.mpr (h a (b6 ..));have h2:=ih λr hr=>h r (bP _ hr);rw[nN,cx,cw];omega
   have:=h rs λr hr z=>by
    obtain⟨d,R,_,_⟩:=hw.rnd r hr
    have:=R.first
    rw[z] at this;cases this
   have:=fin.length_eq
   omega
  refine⟨rs.map (λr=>r.map (·.1)),rfl,by rw[aG];omega,λM pm zH=>?_⟩
  obtain⟨iw,p',rfl⟩:=L2.qz (λr:List (Nat×Nat)=>r.map (·.1)) M rs pm;have R':=R.IA p';have e:=Ft g R' zH
  have:=q2 n2 iw R' e
  rw[e] at this;exact this
variable {P:Program} {w:World} {mg:Str->Option Value} {base:Heap} {Z:DC} (T:Txt Z mg)
theorem fe{t u:cN}{E:gu}{aA:DN}(ρ:DN)(e:aA=ρ)(h:mF t u E ρ):mF t u E aA:=by rw[e];exact h
theorem Eh{n p:Nat}(h:p<n):jj n (p:Int)=some p:=by
 unfold jj;rw[if_pos (by omega),if_pos (by omega)]
 exact congrArg some (by omega)
theorem CA{w:W}(h:jW w≠ []):(jW w).Pairwise kC:=by
 unfold jW at h ⊢
 split
 ·next z=>exact z.choose_spec.2
 ·next z=>rw[dif_neg z] at h;exact absurd rfl h
variable {P:Program} {w:World} {mg:Str->Option Value} {base:Heap} {Z:DC} (T:Txt Z mg)
def Rs(w:W)(rs:List (List (Nat×Nat))):Prop:=(w.length=1/\rs= [[(0,0)]])\/(2<=w.length/\bI w rs)
theorem CB{w:W}{P:D->Prop}(g:Good w)(h:∀rs,Rs w rs->(dX rs).Pairwise kC->P (.lst ((dX rs).map ar))):(w.length=1->P (.lst [ar [0]]))/\(2<=w.length->∀rs,bI w rs->jW w=dX rs->P (.lst ((jW w).map ar))):=by
 refine⟨λh1=>h [[(0,0)]] (.inl ⟨h1,rfl⟩) (List.pairwise_singleton _ _),λh2 rs R e=>?_⟩
 have ne:jW w≠ []:=λz=>by
  rw[z] at e
  have rs0:rs= []:=by
   cases rs with
   |nil=>rfl
   |cons a l=>cases e
  have TR:=R.perm.length_eq;rw[rs0] at TR;have d0:(ba w).length=0:=TR.symm
  obtain⟨x,hx⟩:∃x,x∈ba w:=by
   cases g.con 1 (by omega) with
   |step h1 h2=>exact⟨_,b7.mpr (show bu w (_,1) from h2)⟩
  have:=yD hx
  omega
 have s:=CA ne;rw[e] at s ⊢;exact h rs (.inr ⟨h2,R⟩) s
def tc(w:W):Nat:=(iS (row w) w.length).length
theorem Mq{w:W}(g:Good w):2*tc w=(ba w).length:=by
 have:=(ux g (.refl _)).length_eq
 rw[cx,aG] at this;unfold tc;omega
def Jx:b9:=λds P=>∃(w:W),ds= [.dA w]/\Good w/\1<=w.length/\w.length<=14/\fX w<64/\∀rs,Rs w rs->(dX rs).Pairwise kC->P (.tup [.int (w.length:Int), .int (tc w:Int), .int (rs.length:Int)])
theorem FG:FnOk P w Z.K mg base bQ 4 T.d_count.f T.d_count.fd ["web"] (aM Z Jx):=by
 have nd:=yo.nd;refine aP T.d_count.F yo [0] (by decide) (λds R h=>by obtain⟨_,rfl,_⟩:=h;rfl) (λbh A outer s H E ds R hr h=>?_)
 have hu:=hr.units;refine⟨_,(ao (aL (fE (ab (di T.W (aa 0) T.m_many.m (eW T) (hr.mono (by decide)) T.m_many.b) (ab (aD aZ rfl T.B.len aY (ab (di T.W (aa 0) T.m_ties.m (lj T) (hr.mono (by decide)) T.m_ties.b) ae)) (ab (aD aZ rfl T.B.len aY (ab (aE T.d_lands ((pq T).imp F7) hr (ab (aa 0) ae)) ae)) ae)))))),?_⟩
 obtain⟨w',rfl,g,l1,Fs,Ac,q⟩:=h;refine⟨_,rfl,w',rfl,w',rfl,_,rfl,w',rfl,w',rfl,g,Fs,Ac,λts pm zH=>?_⟩
 obtain⟨u1,u2⟩:=CB (P:=λd=>eY [d] λx=>([.int (w'.length:Int), .int ((ts.map pairD).length:Int),x]:List D).length<=sizeLine/\R (.tup [.int (w'.length:Int), .int ((ts.map pairD).length:Int),x])) g λrs Rr s=>by
  refine⟨by show 3<=sizeLine;decide,?_⟩
  have:=q rs Rr s
  have e1:(ts.map pairD).length=tc w':=by rw[aG,pm.length_eq];rfl
  have e2:((dX rs).map ar).length=rs.length:=by rw[aG,aG]
  rw[e1,e2];exact this
 exact⟨_,rfl,w',rfl,g,l1,Fs,Ac,u1,u2⟩
def JE:b9:=λds P=>∃(w:W),ds= [.dA w]/\Good w/\1<=w.length/\w.length<=14/\fX w<64/\∀rs,Rs w rs->(dX rs).Pairwise kC->P (.bl (decide ((w.length:Int)+(rs.length:Int)=(tc w:Int)+2)))
theorem zx:FnOk P w Z.K mg base bQ 5 T.d_is_plane.f T.d_is_plane.fd ["web"] (aM Z JE):=by
 have nd:=qM.nd;refine aP T.d_is_plane.F qM [0,0,0,0] (by decide) (λds R h=>by obtain⟨_,rfl,_⟩:=h;rfl) (λbh A outer s H E ds R hr h=>?_)
 have hu:=hr.units
 refine⟨_,(ah (yU (aE T.d_count (FG T) hr (ab (aa 0) ae)) (cU 3 rfl (aF (aB 1 nd) (aF (aB 2 nd) (aF (aB 3 nd) bK)))))
   (ao (aL (tY (il hu) (ax aN (aa 1) (aa 3)) (ax aN (aa 2) ai) (bf _))))),?_⟩
 obtain⟨w',rfl,g,l1,Fs,Ac,q⟩:=h;refine⟨_,rfl,w',rfl,g,l1,Fs,Ac,λrs Rr s=>?_⟩;refine⟨rfl,rfl,?_⟩;refine⟨_,rfl,_,rfl,_,rfl,?_⟩;exact Af (q rs Rr s)
variable {P:Program} {w:World} {mg:Str->Option Value} {base:Heap} {Z:DC} (T:Txt Z mg)
def JD:b9:=λds P=>∃(w:W),ds= [.dA w]/\i9 w/\w.length<=8/\P .bb
theorem uT{w:W}(F:i9 w)(h8:w.length<=8):fX w<64:=by have:=F.dg;omega
theorem KN{w:W}(F:i9 w){rs:List (List (Nat×Nat))}(h:Rs w rs):bI w rs:=by
 rcases h with ⟨h,_⟩ | ⟨_,h⟩
 ·have:=F.n3;omega
 ·exact h
theorem vB:FnOk P w Z.K mg base bQ 6 T.d_need_plane.f T.d_need_plane.fd ["web"] (aM Z JD):=by
 have nd:=ni.nd;refine aP T.d_need_plane.F ni [0] (by decide) (λds R h=>by obtain⟨_,rfl,_⟩:=h;rfl) (λbh A outer s H E ds R hr h=>?_)
 have hu:=hr.units;refine⟨_,(ao (bM (jD (gY (aE T.d_is_plane (zx T) hr (ab (aa 0) ae)))) (ao iU) aX)),?_⟩;obtain⟨w',rfl,F,h8,q⟩:=h;have n3:=F.n3;refine⟨_,rfl,w',rfl,F.g,by omega,by omega,uT F h8,λrs Rr s=>?_⟩
 have h1:=F.lands (KN F Rr);have h2:=Mq F.g;rw[jd] at h2;have h3:=F.dg;refine⟨rfl,cH (λe=>absurd (show(w'.length:Int)+(rs.length:Int)=(tc w':Int)+2 by omega) (by simpa [sU] using e)) (λe=>⟨rfl,q⟩)⟩
def JC:b9:=λds P=>∃(w:W),ds= [.dA w, .bb]/\i9 w/\w.length<=8/\P .bb
theorem P8{w:W}(F:i9 w){rs:List (List (Nat×Nat))}(R:bI w rs){l:List Nat}(h:l∈dX rs):l.length=3:=by
 obtain⟨r,hr,rfl⟩:=b8.mp h;rw[aG];exact F.tri.three F.g R r hr
theorem tQ:FnOk P w Z.K mg base bQ 4 T.d_need_filled.f T.d_need_filled.fd ["web","rim"] (aM Z JC):=by
 have nd:=lW.nd;refine aP T.d_need_filled.F lW [0,0,0,0] (by decide) (λds R h=>by obtain⟨_,rfl,_⟩:=h;rfl) (λbh A outer s H E ds R hr h=>?_)
 have hu:=hr.units;refine⟨_,(ao (bR rfl PassesOwn.never (cD rfl T.B.enumerate (ab (aE T.d_lands ((pq T).imp F7) hr (ab (aa 0) ae)) ae)) (cU 2 rfl (aF (aB 2 nd) (aF (aB 3 nd) bK))) (ao (bM (DW.dt (t6 (aS (rQ hu) (aD aZ rfl T.B.len aY (ab (aa 3) ae)) ai (bf _)) (qa (aS (rQ hu) (aa 3) (aa 1) (bf _))))) (ao iU) aX)))),?_⟩;obtain⟨w',rfl,F,h8,q⟩:=h;have n3:=F.n3;refine⟨_,rfl,w',rfl,F.g,by omega,by omega,uT F h8,λz=>by omega,λ_ rs Rr el=>?_⟩
 refine bx (λj ρ=>∃o2 o3,ρ= [some (.dA w'),some .bb,o2,o3]) ⟨_,_,rfl⟩ ?_ ?_
 ·rintro j d _ hd ⟨o2,o3,rfl⟩ A hA
  obtain⟨x,hx,rfl⟩:=eQ hd;obtain⟨l,hl,rfl⟩:=bN hx;have l3:=P8 F Rr (by rw[<-el];exact e9 hl)
  refine⟨rfl,rfl,?_⟩;refine⟨_,rfl,?_⟩;dsimp only[cZ,eY,ar];refine FC ⟨_,rfl,?_⟩;rw[show(!decide (((l.map af).length:Int)=3))=false by rw[aG,l3];rfl]
  exact cv (cv (hA _ ⟨_,_,rfl⟩))
 ·rintro _ ⟨o2,o3,rfl⟩
  exact⟨rfl,q⟩
def oD:Option Nat->D
 |none=> .bb
 |some k=>af k
def oV:Option Nat->V
 |none=> .bb
 |some k=> .int (k:Int)
theorem zp{G:Hp}:∀os:Os,DvAll Z G (os.map oV) (os.map oD)
 | []=> .nil
 |none::os=> .cons .bb (zp os)
 |some k::os=> .cons (.int _) (zp os)
theorem Ir{os:Os}{p:Nat}(h:p<os.length):fO (os.map oD) (p:Int)=some (oD (cY os p)):=fB (by
 unfold cY;rw[cA,aV,bO h];rfl)
def sumF(os:Os)(l:List Nat)(x:Nat):Nat:=((l.filter λp=>decide (p≠x)).map λp=>(cY os p).getD 0).sum
theorem xf{α:Type}(f:α->Nat):∀l:List α,(l.map λp=>((f p:Nat):Int)).sum=(((l.map f).sum:Nat):Int)
 | []=>rfl
 |a::l=>by rw[iJ,List.sum_cons,xf f l,iJ,List.sum_cons,Int.natCast_add]
def Bv(Z:DC):Sp:=λvs H Q _=>∃(G:Hp)(a:Addr)(v:V)(os:Os)(l:List Nat),vs= [.ref a,v]/\aK G H/\H a=some (.lst (os.map oV))/\Dv Z G v (ar l)/\l.length=3/\(∀p∈l,p<os.length)/\(∀x,cz os l= [x]->sumF os l x<=3)/\∀H',(∀b o,b≠a->H b=some o->H' b=some o)->H' a=some (.lst ((bJ os l).map oV))->Q .bb H'
theorem FZ{G H:Hp}{a:Addr}{o:HO}(s:aK G H)(h:H a=some o):aK G (upd G a o)/\aK (upd G a o) H:=by
 refine⟨λb u e=>?_,λb u e=>?_⟩
 ·by_cases z:b=a
  ·subst z
   have:=s _ _ e
   rw[h] at this;cases this;exact av
  ·rw[aw z];exact e
 ·by_cases z:b=a
  ·subst z
   rw[av] at e;cases e;exact h
  ·rw[aw z] at e;exact s _ _ e
theorem FH:FnOk P w Z.K mg base bQ 1 T.d_third_dyed.f T.d_third_dyed.fd ["dyeing","land"] (Bv Z):=by
 have nd:=nv.nd;refine T.d_third_dyed.F.ok nv (λvs H Q E h=>?_) (λbh A outer s H vs Q E hr h=>?_)
 ·obtain⟨G,a,v,os,l,rfl,_⟩:=h;rfl
 have hu:=hr.units;obtain⟨G,a,v,os,l,rfl,sG,ha,dv,l3,hl,hs,q⟩:=h
 refine⟨_,gU (lB (i:=2) nd rfl (by first|exact Or.inl rfl|exact Or.inr rfl) (oS (Z:=Z) (NC:= ["p","dyeing"]) (src:= [none,some 0]) rfl (mh (aq fR)) ⟨rfl,rfl,trivial⟩ (bF (aa 1)) (λ_ _ _=>(bE 0 (show(["p","dyeing"]:List Str).Nodup from by decide+kernel))) (λ_ _ _=>(p5 (aS vv (aO (aa 1) (aa 0)) fg (bf _)))) (λ_ _ _=>(aa 0))))
  (qE (Jc (aS (Z:=Z) (il hu) (aD aZ rfl T.B.len aY (ab (aa 2) ae)) ai (bf _)) (qE (nY
   (ax (Z:=Z) lh ai (aD (Kj rfl) rfl T.B.sum Ki (ab (oS (NC:= ["p","dyeing","bare"]) (src:= [none,some 0,some 2]) rfl (mh (aq fR)) ⟨rfl,rfl,rfl,rfl,trivial⟩ (bF (aa 1)) (λ_ _ _=>(bE 0 (show(["p","dyeing","bare"]:List Str).Nodup from by decide+kernel))) (λ_ _ _=>(p5 (aS (rQ hu) (aa 0) (aO (aa 2) ai) (bf _)))) (λ_ _ _=>(aO (aa 1) (aa 0)))) ae)))
   (qA (pv 0) (aO (Z:=Z) (aa 2) ai) set_list))) Bf)),?_⟩
 obtain⟨s1,s2⟩:=FZ sG ha
 have env:∀(G':Hp)(o:Option V)(o':Option D),aK (upd G a (.lst (os.map oV))) G'->(∀d,o'=some d->∃u,o=some u/\Dv Z G' u d)->dk Z G' [some (.ref a),some v,o] [some (.lst (os.map oD)),some (ar l),o']:=λG' o o' s h=>⟨rfl,λi d hd=>by
  match i with
  |0=>cases hd;exact⟨_,rfl, .lst (s _ _ av) (zp os)⟩
  |1=>cases hd;exact⟨_,rfl,dv.mono (s1.trans s)⟩
  |2=>
   obtain⟨u,rfl,du⟩:=h d (Option.some.inj hd);exact⟨u,rfl,du⟩⟩
 refine⟨_,[some (.lst (os.map oD)),some (ar l),none],λd=>d=ar (cz os l),s2,env _ none none (.refl _) (λd z=>by cases z),?_,?_⟩
 ·refine⟨_,rfl,iP (λρ=>∃o,ρ= [o,some (.lst (os.map oD))]) af (λp=>(cY os p).isNone) af l _ [] _ (λp hp aA hI Y Nn hY hN=>?_) ⟨none,rfl⟩ (by rw[l3];exact small (by simp)) λaA _=>?_⟩
  ·obtain⟨o,rfl⟩:=hI
   refine⟨_,rfl,_,rfl,_,Ir (hl p hp),?_⟩;refine⟨zf (oD (cY os p)),rfl,?_⟩;cases e:cY os p with
   |none=>exact dr ⟨_,rfl,hY _ ⟨_,rfl⟩ (by rw[e];rfl)⟩
   |some k=>exact cv (hN _ ⟨_,rfl⟩ (by rw[e];rfl))
  ·rfl
 rintro _ rfl v1 G2 H2 x2 p9;refine⟨G2,[some (.lst (os.map oD)),some (ar l),some (ar (cz os l))],λb=>b=decide ((cz os l).length=1),x2.sub,env _ _ _ x2.gg (λd z=>by cases z;exact⟨v1,rfl,p9⟩),?_,?_⟩
 ·refine⟨_,rfl,?_⟩
  dsimp only[cZ,eY,ar];refine wG ⟨_,rfl,?_⟩;rw[aG];exact decide_eq_decide.mpr (by omega)
 rintro _ rfl G3 H3 x3;have h3:aK H H3:=x2.hh.trans x3.hh
 by_cases c:(cz os l).length=1
 ·rw[decide_eq_true c]
  obtain⟨x,hx⟩:=List.length_eq_one_iff.mp c;have e3:=env G3 (some v1) (some (ar (cz os l))) (x2.gg.trans x3.gg) (λd z=>by cases z;exact⟨v1,rfl,p9.mono x3.gg⟩)
  rw[hx] at e3;refine dr ⟨G3,_,λd=>d= .int ((3-sumF os l x:Nat):Int),x3.sub,e3,?_,?_⟩
  ·refine⟨_,rfl,iP (λρ=>∃o,ρ= [o,some (.lst (os.map oD)),some (ar [x])]) af (λp=>decide (p≠x)) (λp=> .int (((cY os p).getD 0:Nat):Int)) l _ [] _ (λp hp aA hI Y Nn hY hN=>?_) ⟨none,rfl⟩ (by rw[l3];exact small (by simp)) λaA _=>?_⟩
   ·obtain⟨o,rfl⟩:=hI
    refine⟨_,rfl,_,rfl,af x,rfl,?_⟩;refine(?_:B2 (.int (p:Int)) (.int (x:Int)) _);refine uE ⟨_,rfl,?_⟩
    by_cases e:p=x
    ·rw[show(!decide ((p:Int)=(x:Int)))=false by rw[e];simp]
     exact cv (hN _ ⟨_,rfl⟩ (by rw[e];simp))
    ·rw[show(!decide ((p:Int)=(x:Int)))=true by simp;omega]
     have nb:(cY os p).isNone=false:=by
      cases z:(cY os p).isNone with
      |false=>rfl
      |true=>
       have:p∈cz os l:=ib.mpr ⟨hp,z⟩
       rw[hx] at this;exact absurd (jw.mp this) e
     refine dr ⟨_,rfl,_,rfl,_,Ir (hl p hp),?_⟩;cases z:cY os p with
     |none=>rw[z] at nb;cases nb
     |some k=>
      have:=hY [some (af p),some (.lst (os.map oD)),some (ar [x])] ⟨_,rfl⟩ (by simp[e])
      rw[z] at this;exact this
   ·refine⟨(l.filter λp=>decide (p≠x)).map λp=>(((cY os p).getD 0:Nat):Int),by rw[eF,qX];rfl,?_⟩
    refine(?_:D.int (3-_)=D.int _)
    have:=hs x hx
    rw[xf];unfold sumF at this ⊢;rw[Int.ofNat_sub this];rfl
  rintro _ rfl v2 G4 H4 x4 dv4;refine⟨.ref a,rfl,?_⟩;refine⟨G4,_,λd=>d=af x,x4.sub,e3.mono x4.gg,?_,?_⟩
  ·exact⟨_,rfl,_,rfl,rfl⟩
  rintro _ rfl v3 G5 H5 x5 dv5;have h5:aK H H5:=(h3.trans x4.hh).trans x5.hh
  have xl:x∈l:=by
   have:x∈cz os l:=by rw[hx];exact jw.mpr rfl
   exact(ib.mp this).1
  refine⟨a,os.map oV,(x:Int),x,rfl,dv5.ofInt,h5 _ _ ha,Eh (by rw[aG];exact hl x xl),?_⟩
  refine q _ (λb o ne e=>by rw[aw ne];exact h5 _ _ e) ?_
  rw[av]
  have e:bJ os l=os.set x (some (3-sumF os l x)):=by
   unfold bJ;rw[hx];rfl
  rw[e,wx,dv4.ofInt];rfl
 ·rw[decide_eq_false c]
  refine cv ?_
  have e:bJ os l=os:=by
   unfold bJ
   split
   ·next h=>rw[h] at c;exact absurd rfl c
   ·rfl
  exact q _ (λb o _ e=>h3 _ _ e) (by rw[e];exact h3 _ _ ha)
variable {P:Program} {w:World} {mg:Str->Option Value} {base:Heap} {Z:DC} (T:Txt Z mg)
theorem Er{G:Hp}:∀{os:Os}{xs:List V},DvAll Z G xs (os.map oD)->xs=os.map oV
 | [],_,h=>by rw[h.Iw];rfl
 |o::os,_,h=>by
  obtain⟨v,us,rfl,a,b⟩:=h.zt;rw[Er b];cases o with
  |none=>cases a;rfl
  |some k=>rw[a.ofInt];rfl
def JS(os:Os)(l:List Nat):Prop:=l.length=3/\(∀p∈l,p<os.length)/\∀x,cz os l= [x]->sumF os l x<=3
def Kt(md:List Nat)(i:Nat)(te:bg):cN:=λE ρ=>∃(os:Os)(l:List Nat),ρ[i]? =some (some (.lst (os.map oD)))/\te (cJ md ρ) (λd=>d=ar l/\JS os l/\E.nx (ρ.set i (some (.lst ((bJ os l).map oD)))))
theorem E5{X:Cx}{md:List Nat}{rn k j:Nat}{x y:Str}{py p pos aU:Pos}{e:Expr}{te:bg}{st:Stmt}(i:Nat)(d:dF X.K X.mg x st ["dyeing","land"])(F:FnOk X.prog X.w X.K X.mg X.base bQ k d.f d.fd ["dyeing","land"] (Bv Z))(hr:cn j X.A)(he:DE Z X e te)(hg:Gl X x:=by rfl)(hk:k<=j:=by first|decide|omega)
  (ij:(x==("__debug__":Str))=false:=by decide) (iN:starEach [e] X.env=(false,eval e X.env)::starEach [] X.env:=by rfl) (mj:starEach [.Name y py,e] X.env=(false,eval (.Name y py) X.env)::starEach [e] X.env:=by rfl) (eG:(backTo aU (starEach [e] X.env)).any (·.1)=false:=by rfl) (jU:swapsWith (.Call (.Name x p) [.Name y py,e] [] aU) none pos.line X.env=pure false:=by rfl)
  (hm:md.getD i 0=1:=by rfl) (hi:X.N[i]? =some y:=by rfl) (hv:kT X.env.scope y:=by first|exact Or.inl rfl|exact Or.inr (Or.inl rfl) |exact Or.inr (Or.inr rfl)) (hd:(y==("__debug__":Str))=false:=by decide) (dG:(y==("__classdict__":Str))=false:=by decide):
  DSt Z X md rn (.Expr (.Call (.Name x p) [.Name y py,e] [] aU) pos) (Kt md i te):=by
 refine(kG (qx F (hr.mono hk) hg d.m d.F.kp d.b .nil pC (cS (pv i hi hv hd dG) (cS he fU iN) mj) ij mj eG) jU).imp ?_;intro D σ H aJ;rfl';obtain⟨B,ρ,E,⟨G,fp,S⟩,⟨os,l,h1,h⟩,M⟩:=aJ;obtain⟨a,_,_,_,e2,_⟩:=S.one hm h1;ac_rfl;refine⟨_,e2,?_⟩;refine⟨G,_,_,S.ex.sub,S.qf,h,?_⟩;rintro _ ⟨rfl,⟨t1,t2,t3⟩,q⟩ v G1 H1 x1 dv;have S1:=S.grow x1;obtain⟨a',xs,ds,e1,gI,e3,bw,put⟩:=S1.one hm h1;rw[e2] at gI;cases gI;cases e1;refine⟨G1,a,v,os,l,rfl,x1.sub,by rw[<-Er bw];exact e3,dv,t1,t2,t3,λH' kp ha=>?_⟩
 have S2:=put _ _ (zp (Z:=Z) (G:=G1) (bJ os l))
 have hh:aK (upd H1 a (.lst ((bJ os l).map oV))) H':=λb o eb=>by
  by_cases z:b=a
  ·subst z;rw[av] at eb;cases eb;exact ha
  ·rw[aw z] at eb;exact kp b o z eb
 exact M.nx _ q _ _ ⟨G1,fp,S2.grow ⟨.refl _,S2.ex.sub.trans hh,hh,λ_ _ h=>h⟩⟩
theorem K3{os:Os}:inD .bb (os.map oD)=decide (none∈os):=by
 unfold inD;rw[List.any_map,Bool.eq_iff_iff];simp only[List.any_eq_true,Function.comp_apply,decide_eq_true_eq]
 constructor
 ·rintro⟨o,ho,h⟩
  cases o with
  |none=>exact ho
  |some k=>simp[oD,af,iE] at h
 ·exact λh=>⟨none,h,by simp[oD,iE]⟩
theorem Hn(os:Os):(os.map oD).all eS=true:=by
 rw[List.all_map,kO];intro o _;cases o<;>rfl
def Mc:b9:=λds P=>∃(w:W),ds= [.dA w]/\i9 w/\w.length<=8/\(∃c,jQ w c)/\∀c,jQ w c->P (ar ((List.range w.length).map c))
theorem pk:FnOk P w Z.K mg base bQ 4 T.d_dyed_by_lands.f T.d_dyed_by_lands.fd ["web"] (gB Z 1 Mc):=by
 have nd:=jL.nd;refine kn 1 T.d_dyed_by_lands.F jL [0,0,1,0,0,0] (by decide) (λds R h=>by obtain⟨_,rfl,_⟩:=h;rfl) (λbh A outer s H E ds R hr h=>?_)
 have hu:=hr.units
 refine⟨_,ah
   (aH false 1 nd (aE T.d_lands ((pq T).imp F7) hr (ab (aa 0) ae)))
  (ah
   (kh 2 (NC:= ["p"]) (src:= [none]) rfl nd (mh (aq fH)) trivial (oU rfl T.B.range (ab (di T.W (aa 0) T.m_many.m (eW T) (hr.mono (by decide)) T.m_many.b) ae)) (λ_ _ _=>(bE 0 (show(["p"]:List Str).Nodup from by decide+kernel))) (λ_ _ _=>cE) (λ_ _ _=>fg))
  (ah
   (bR rfl PassesOwn.never (cD rfl T.B.enumerate (ab (aO (aa 1) ai) ae)) (cU 2 rfl (aF (aB 3 nd) (aF (aB 4 nd) bK))) (ao (rB false 2 (aa 4) (aa 3))))
  (ah (nU PassesOwn.never (aS vt fg (aa 2) (by with_unfolding_all rfl)) (ao (bR rfl PassesOwn.never (bF (aa 1)) (aB 5 nd) (ao (E5 2 T.d_third_dyed (FH T) hr (aa 5))))))
  (ao
   (Ao 2)
  )))),?_⟩
 obtain⟨w',rfl,F,h8,⟨c0,C0⟩,q⟩:=h;have n3:=F.n3;have g:=F.g;refine⟨_,rfl,w',rfl,g,by omega,by omega,uT F h8,λz=>by omega,λ_ rs Rr el=>?_⟩
 rw[el];have lm:∀l∈dX rs,∃p q s,l= [p,q,s]/\q∈row w' p/\s∈row w' q/\p∈row w' s:=λl hl=>F.tri.land g Rr hl
 obtain⟨l0,ls,TH⟩:∃l0 ls,dX rs=l0::ls:=by
  cases e:dX rs with
  |cons a b=>exact⟨a,b,rfl⟩
  |nil=>
   have h1:=F.lands Rr;have h2:=F.dg
   have:rs.length=0:=by
    have:=congrArg List.length e
    rw[aG] at this;exact this
   omega
 obtain⟨p0,q0,s0,e0,t1,t2,t3⟩:=lm l0 (by rw[TH];exact b6 ..)
 have C:=C0.any g t1 (a:=0) (b:=1) (by decide) (by decide) (by decide)
 generalize hc:(λp=>if c0 p=c0 p0 then 0 else if c0 p=c0 q0 then 1 else 3-0-1)=c at C;have cp:c p0=0:=by rw[<-hc];simp
 have cq:c q0=1:=by
  have:=C0.ne _ _ t1
  rw[<-hc];simp[this.symm]
 have cs:c s0=2:=by
  have a1:=C.lt s0 (aI t3);have a2:=C.ne _ _ t2;have a3:=C.ne _ _ t3;omega
 refine⟨trivial,?_⟩;refine⟨_,rfl,w',rfl,_,rfl,⟨by omega,by omega⟩,?_⟩
 rw[show((w'.length:Int)).toNat=w'.length by omega,C9]
 refine iO (ρ:= [none]) _ (λ_=>D.bb) (List.range w'.length) _ (λy hy Y h=>h) rfl (by rw[iI];exact small (by omega)) λaA=>?_
 rw[show(List.range w'.length).map (λ_=>D.bb)=(List.replicate w'.length (none:Option Nat)).map oD by rw[List.map_replicate,List.map_const',iI];rfl]
 have a0:fO ((dX rs).map ar) (0:Int)=some (ar [p0,q0,s0]):=fB (p:=0) (by rw[TH,e0];rfl)
 refine⟨_,rfl,_,a0,?_⟩
 have D0:Dy w' c (List.replicate w'.length none):=⟨wg,λp k h=>by
  rw[nK] at h
  split at h<;>cases h⟩
 have pl:=aI t1;have ql:=aI t2;have sl:=aI t3;refine bx (λj ρ=>∃(os:Os)(o3 o4:Option D),ρ= [some (.dA w'),some (.lst ((dX rs).map ar)),some (.lst (os.map oD)),o3,o4,none]/\Dy w' c os/\∀i,i<j->cY os ([p0,q0,s0].getD i 0)≠none) ⟨_,_,_,rfl,D0,λi h=>by omega⟩ ?_ ?_
 ·rintro j d _ hd ⟨os,o3,o4,rfl,Dj,dn⟩ A hA
  obtain⟨x,hx,rfl⟩:=eQ hd;obtain⟨y,hy,rfl⟩:=bN hx;have hj:j<3:=(dE.mp hy).1
  have cy:c y=j/\y<w'.length:=by
   match j,hj with
   |0,_=>cases hy;exact⟨cp,pl⟩
   |1,_=>cases hy;exact⟨cq,ql⟩
   |2,_=>cases hy;exact⟨cs,sl⟩
  have ey: [p0,q0,s0].getD j 0=y:=by rw[aV,hy];rfl
  have yl:y<os.length:=by rw[Dj.l];exact cy.2
  refine⟨rfl,rfl,?_⟩;refine⟨_,rfl,trivial,_,rfl,_,rfl,_,y,rfl,Eh (by rw[aG];exact yl),?_⟩
  refine hA _ ⟨os.set y (some j),_,_,by rw[wx];rfl,?_,λi hi=>?_⟩
  ·exact Dj.set cy.1
  ·rw[Iu yl]
   split
   ·simp
   ·next ne=>
    refine dn i ?_
    have:i≠j:=λz=>ne (by rw[z,ey])
    omega
 ·rintro _ ⟨os,o3,o4,rfl,Dj,dn⟩
  have dp:cY os p0≠none:=dn 0 (by show 0<3;decide)
  have dq:cY os q0≠none:=dn 1 (by show 1<3;decide)
  refine lK (λm ρ=>∃(os:Os)(o5:Option D),ρ= [some (.dA w'),some (.lst ((dX rs).map ar)),some (.lst (os.map oD)),o3,o4,o5]/\Dy w' c os/\cY os p0≠none/\cY os q0≠none/\wO os=m) (wO os) ⟨os,_,rfl,Dj,dp,dq,rfl⟩ ?_;rintro m _ ⟨zA,o5,rfl,D1,d1,d2,rfl⟩;refine⟨_,rfl,rfl,Hn zA,_,rfl,?_⟩;rw[if_neg cK,K3];refine cH (λe=>?_) (λe=>?_)
  ·have e:=of_decide_eq_true e
   obtain⟨b,hb,eb⟩:=jP.mp e;have y2:zA[b]? =some none:=by rw[bO hb,eb]
   obtain⟨r,hr,x,hx,nx,ny⟩:=more F.tri g Rr (D:=λp=>cY zA p≠none) t1 d1 d2 (by rw[<-D1.l];exact hb) (λz=>z ((get_none hb).mpr y2))
   have nx:cY zA x=none:=Classical.not_not.mp nx;refine⟨_,rfl,bx (λk ρ=>∃(vG:Os)(o5:Option D),ρ= [some (.dA w'),some (.lst ((dX rs).map ar)),some (.lst (vG.map oD)),o3,o4,o5]/\Dy w' c vG/\(∀i:Nat,vG[i]? =some none->zA[i]? =some none)/\∀(j:Nat)(l:List Nat),j<k->(dX rs)[j]? =some l->∀x∈l,(∀y∈l,y≠x->cY zA y≠none)->cY vG x≠none) ⟨zA,o5,rfl,D1,λ_ h=>h,λj l h=>by omega⟩ ?_ ?_⟩
   ·rintro j d _ hd ⟨vG,o6,rfl,D2,mn,hh⟩ A hA
    obtain⟨l,hl,rfl⟩:=bN hd;obtain⟨p,q',s',rfl,u1,u2,u3⟩:=lm l (e9 hl)
    have inl:∀y∈ [p,q',s'],y<w'.length:=λy hy=>by
     simp only[cm,ia,or_false] at hy
     rcases hy with rfl|rfl|rfl
     ·exact aI u1
     ·exact aI u2
     ·exact aI u3
    obtain⟨a1,a2,a3⟩:=Gg C g D2 u1 u2 u3;refine⟨vG,[p,q',s'],rfl,_,rfl,rfl,⟨rfl,λy hy=>by rw[D2.l];exact inl y hy,Dr C g D2 u1 u2 u3⟩,?_⟩
    refine hA _ ⟨bJ vG [p,q',s'],_,rfl,a1,λi h=>mn i (a2 i h),λj' l' KW Fn x' qm AH=>?_⟩
    by_cases z:j'=j
    ·subst z
     rw[hl] at Fn;cases Fn;exact a3 x' qm λy hy ne=>nX (by rw[D2.l,D1.l]) mn (by rw[D1.l];exact inl y hy) (AH y hy ne)
    ·have o2:=hh j' l' (by omega) Fn x' qm AH
     obtain⟨_,_,_,rfl,v1,v2,v3⟩:=lm l' (e9 Fn);refine nX (by rw[a1.l,D2.l]) a2 ?_ o2
     rw[D2.l];simp only[cm,ia,or_false] at qm
     rcases qm with rfl|rfl|rfl
     ·exact aI v1
     ·exact aI v2
     ·exact aI v3
   ·rintro _ ⟨vG,o6,rfl,D2,mn,hh⟩
    have le:vG.length=zA.length:=by rw[D2.l,D1.l]
    obtain⟨j,hj⟩:=sZ (b8.mpr ⟨r,hr,rfl⟩:r.map (·.1)∈dX rs)
    have xl:x<w'.length:=by
     obtain⟨_,_,_,e,v1,v2,v3⟩:=lm _ (e9 hj);rw[e] at hx;simp only[cm,ia,or_false] at hx
     rcases hx with rfl|rfl|rfl
     ·exact aI v1
     ·exact aI v2
     ·exact aI v3
    have PV:=hh j _ (by rw[aG];exact(dE.mp hj).1) hj x hx ny
    refine⟨wO vG,Eo (i:=x) le.symm mn ((get_none (by rw[D1.l];exact xl)).mp nx) (λz=>PV ((get_none (by rw[D2.l];exact xl)).mpr z)),vG,o6,rfl,D2,nX le mn (by rw[D1.l];exact pl) d1,nX le mn (by rw[D1.l];exact ql) d2,rfl⟩
  ·have e:=of_decide_eq_false e
   have ea:=D1.all e;refine⟨_,rfl,?_⟩
   have:=q c C
   rw[show ar ((List.range w'.length).map c)= .lst (zA.map oD) by rw[ea];unfold ar;rw[eF,eF];rfl] at this
   exact this
variable {P:Program} {w:World} {mg:Str->Option Value} {base:Heap} {Z:DC} (T:Txt Z mg)
def JH:b9:=λds P=>∃(w:W),ds= [.dA w]/\i9 w/\w.length<=8/\(∀p,p<w.length->(row w p).length%2=1->P (.tup [.str "wheel",af p,ar (row w p)]))/\∀c,jQ w c->P (.tup [.str "dyed",ar ((List.range w.length).map c)])
theorem ER:∀n:Nat,n<=8->sU (.int (Builtin.bitAnd (n:Int) 1))=decide (n%2=1):=by decide
theorem vF:FnOk P w Z.K mg base bQ 7 T.d_three_dyes.f T.d_three_dyes.fd ["web"] (aM Z JH):=by
 have nd:=nz.nd;refine aP T.d_three_dyes.F nz [0,0,0] (by decide) (λds R h=>by obtain⟨_,rfl,_⟩:=h;rfl) (λbh A outer s H E ds R hr h=>?_)
 have hu:=hr.units
 refine⟨_,(ah (bM (aS zr (di T.W (aa 0) T.m_many.m (eW T) (hr.mono (by decide)) T.m_many.b) ai (bf _)) (ao iU) aX)
   (ah (uJ (aE T.d_need_plane (vB T) hr (ab (aa 0) ae)))
   (ah (uJ (aE T.d_need_filled (tQ T) hr (ab (aa 0) (ab fg ae))))
   (ah (bR rfl PassesOwn.never (cD rfl T.B.enumerate (ab (di T.W (aa 0) T.m_turns.m (oq T) (hr.mono (by decide)) T.m_turns.b) ae)) (cU 2 rfl (aF (aB 1 nd) (aF (aB 2 nd) bK))) (ao (bM (gY (ax Iv (aD aZ rfl T.B.len aY (ab (aa 2) ae)) ai)) (ao (aL (fE (ab iM (ab (aa 1) (ab (aa 2) ae)))))) aX)))
   (ao (aL (fE (ab iM (ab (aE T.d_dyed_by_lands ((pk T).imp F7) hr (ab (aa 0) ae)) ae))))))))),?_⟩
 obtain⟨w',rfl,F,h8,q1,q2⟩:=h;have n3:=F.n3;have g:=F.g;refine⟨_,rfl,w',rfl,w',rfl,_,rfl,AM (decide_eq_false (by omega)) ?_⟩
 refine⟨_,rfl,w',rfl,F,h8,?_⟩;refine⟨_,rfl,w',rfl,F,h8,?_⟩;refine⟨_,rfl,w',rfl,w',rfl,by omega,?_⟩
 refine bx (λj ρ=>∃o1 o2,ρ= [some (.dA w'),o1,o2]/\∀i,i<j->(row w' i).length%2=0) ⟨_,_,rfl,λi h=>by omega⟩ ?_ ?_
 ·rintro j d _ hd ⟨o1,o2,rfl,ev⟩ A hA
  obtain⟨hj,rfl⟩:=sX hd;have rl:=dZ g j;refine⟨rfl,rfl,?_⟩;refine⟨_,rfl,?_⟩;dsimp only[cZ,eY,ar];refine(?_:NB (.int (Builtin.bitAnd (((row w' j).map af).length:Int) 1))=true/\_);refine⟨rfl,?_⟩;rw[aG,ER _ (by omega)]
  refine cH (λe=>?_) (λe=>?_)
  ·exact⟨_,rfl,_,rfl,by show 3<=sizeLine;decide,q1 j hj (of_decide_eq_true e)⟩
  ·refine hA _ ⟨_,_,rfl,λi hi=>?_⟩
   have e:=of_decide_eq_false e
   by_cases z:i=j
   ·subst z;omega
   ·exact ev i (by omega)
 ·rintro _ ⟨o1,o2,rfl,ev⟩
  obtain⟨c,C⟩:=F.cc λp hp=>ev p (by rw[fo,aG];exact hp)
  refine⟨_,rfl,w',rfl,F,h8,⟨c,C⟩,λc C=>⟨by show 2<=sizeLine;decide,q2 c C⟩⟩
variable {P:Program} {w:World} {mg:Str->Option Value} {base:Heap} {Z:DC} (T:Txt Z mg)
def yt:b9:=λds P=>∃(ns:List Int)(k:Nat),ds= [.mm ns,af k]/\∀v:Int,P (.int v)
theorem gS:FnOk P w Z.K mg base bQ 1 T.d__law_cell_at.f T.d__law_cell_at.fd ["_law_script","_law_k"] (aM Z yt):=by
 have nd:=kJ.nd;refine aP T.d__law_cell_at.F kJ [0,0] (by decide) (λds R h=>by obtain⟨_,_,rfl,_⟩:=h;rfl) (λbh A outer s H E ds R hr h=>?_)
 have hu:=hr.units
 refine⟨_,(ah (bM (aS zr (aa 1) (aD aZ rfl T.B.len aY (ab (aa 0) ae)) (bf _)) (ao (aL (aO (aa 0) (aa 1)))) aX)
   (ao (aL ai))),?_⟩
 obtain⟨ns,k,rfl,q⟩:=h;refine⟨_,rfl,_,rfl,?_⟩;refine⟨_,rfl,cH (λe=>?_) (λe=>?_)⟩
 ·have hk:k<ns.length:=by
   have:=of_decide_eq_true e
   omega
  exact⟨_,rfl,_,rfl,_,zY (bO hk),q _⟩
 ·exact q 0
def Bq:b9:=λds P=>∃(c:Int),ds= [.int c]/\∀v:Int,P (.int v)
theorem mQ:FnOk P w Z.K mg base bQ 1 T.d__law_drawn.f T.d__law_drawn.fd ["_law_cell"] (aM Z Bq):=by
 have nd:=mZ.nd;refine aP T.d__law_drawn.F mZ [0,0] (by decide) (λds R h=>by obtain⟨_,rfl,_⟩:=h;rfl) (λbh A outer s H E ds R hr h=>?_)
 have hu:=hr.units
 refine⟨_,(ah (bM (DW.dt (uM (aS (il hu) (aa 0) ai (bf _)) (t7 (DW.dt (t6 (aS (il hu) (ax cV (aa 0) ai) ai (bf _)) (qa (aS vq (aa 0) (ax Et ai ai) (bf _)))))))) (ao (aL (ax fS (aa 0) ai))) aX)
   (ah (aH false 1 nd (ax cV (ax aN (ax jI (ax cV (aa 0) ai) ai) ai) ai))
   (ah (aH false 1 nd (ax cV (ax aN (ax jI (aa 1) (aa 1)) ai) ai))
   (ao (aL (ax fS (ax Et (ax aN (aa 1) ai) ai) ai)))))),?_⟩
 obtain⟨c,rfl,q⟩:=h;have m1:=jX (c%2147483629*48271+7919) 2147483647 (by decide)
 have m2:=jX ((c%2147483629*48271+7919)%2147483647*((c%2147483629*48271+7919)%2147483647)+104729) 2147483629 (by decide)
 have fin:∀v:Int,R (.int v):=q;refine⟨_,rfl,wG ⟨_,rfl,cH (λ_=>dr ⟨_,rfl,⟨by decide,by decide⟩,q _⟩) (λ_=>?_)⟩⟩
 refine⟨_,rfl,(by show(0:Int)<2;decide),wG ⟨_,rfl,cH (λ_=>⟨_,rfl,⟨by decide,by decide,by decide⟩,_,rfl,cH (λ_=>⟨_,rfl,⟨by decide,by decide⟩,q _⟩) (λ_=>?_)⟩) (λ_=>cv ?_)⟩⟩
 ·refine⟨_,rfl,(by show(0:Int)<2147483629;decide), .inr ⟨by decide,by decide⟩,(by show(0:Int)<2147483647;decide),trivial,?_⟩
  refine⟨_,rfl,_,rfl, .inl ⟨by dsimp only;omega,by dsimp only;omega⟩,(by show(0:Int)<2147483629;decide),trivial,?_⟩
  exact⟨_,rfl,⟨by decide,by decide,by dsimp only;omega⟩,⟨by decide,by decide⟩,q _⟩
 ·refine⟨_,rfl,(by show(0:Int)<2147483629;decide), .inr ⟨by decide,by decide⟩,(by show(0:Int)<2147483647;decide),trivial,?_⟩
  refine⟨_,rfl,_,rfl, .inl ⟨by dsimp only;omega,by dsimp only;omega⟩,(by show(0:Int)<2147483629;decide),trivial,?_⟩
  exact⟨_,rfl,⟨by decide,by decide,by dsimp only;omega⟩,⟨by decide,by decide⟩,q _⟩
variable {P:Program} {w:World} {mg:Str->Option Value} {base:Heap} {Z:DC} (T:Txt Z mg)
def Gd(w:W)(R:List Nat):Prop:=cB w R/\CC w R/\fX w+2*R.length+6=6*w.length
def JA:b9:=λds P=>∃(a b:Int),ds= [.int (a*12+b), .int 3]/\0<=b/\b<5/\∀w R,Gd w R->w.length<=7->P (.tup [ay w,ar R])
theorem vx:FnOk P w Z.K mg base bQ 1 T.d__law_grown.f T.d__law_grown.fd ["_law_number","_law_least"] (aM Z JA):=by
 have nd:=m7.nd;refine aP T.d__law_grown.F m7 [0,0,1,0,0,0,0,0,0,0] (by decide) (λds R h=>by obtain⟨_,_,rfl,_⟩:=h;rfl) (λbh A outer s H E ds R hr h=>?_)
 have hu:=hr.units
 refine⟨_,(ah (kX 2 nd (fh (ab (bG (ab ai (ab ai ae))) (ab (bG (ab ai (ab ai ae))) (ab (bG (ab ai (ab ai ae))) ae)))))
   (ah (aH false 3 nd (bG (ab ai (ab ai (ab ai ae)))))
   (ah (aH false 4 nd (ax aN (aa 1) (ax cV (aa 0) (ax lh ai (aa 1)))))
   (ah (aH false 0 nd (ax fS (aa 0) (ax lh ai (aa 1))))
   (ah (uK rfl PassesOwn.never (B4 rfl T.B.range (ab ai (ab (aa 4) ae))) (aB 5 nd) (ah (aH false 6 nd (ax cV (aa 0) (aD aZ rfl T.B.len aY (ab (aa 3) ae))))
   (ah (aH false 7 nd (ax aN ai (ax cV (ax fS (aa 0) (aD aZ rfl T.B.len aY (ab (aa 3) ae))) (ax lh (aD aZ rfl T.B.len aY (ab (aa 3) ae)) ai))))
   (ah (aH false 0 nd (ax fS (aa 0) (ax jI (aD aZ rfl T.B.len aY (ab (aa 3) ae)) (ax lh (aD aZ rfl T.B.len aY (ab (aa 3) ae)) ai))))
   (ah (aH false 3 nd (ax aN (cO (aa 3) (dW (aa 6)) dU) (cO (aa 3) dU (dW (aa 6)))))
   (ah (aH false 8 nd (cO (aa 3) dU (dW (ax aN (aa 7) ai))))
   (ah (t4 false 2 (sr rfl rfl T.B.list rfl T.B.reversed (ab (aa 8) ae)))
   (ah (jf 2 (aO (aa 8) ai) (nS (bG (ab (aa 5) ae)) (aO (aa 2) (aO (aa 8) ai))))
   (ah (bR rfl PassesOwn.never (bF (cO (aa 8) (dW ai) dU)) (aB 9 nd) (ao (jf 2 (aa 9) (nS (aO (aa 2) (aa 9)) (bG (ab (aa 5) ae))))))
   (ao (aH false 3 nd (ax aN (bG (ab (aO (aa 8) ai) (ab (aa 5) ae))) (cO (aa 3) (dW (aa 7)) dU)))))))))))))
   (ao (aL (fE (ab (aa 2) (ab (aa 3) ae)))))))))),?_⟩
 obtain⟨a0,b0,rfl,Pn,hb5,q⟩:=h;have hn:(a0*12+b0)%12=b0:=by omega
 generalize a0*12+b0=n at hn;refine⟨by show 2<=sizeLine;decide,by show 2<=sizeLine;decide,by show 2<=sizeLine;decide,by show 3<=sizeLine;decide,?_⟩
 refine⟨by show 3<=sizeLine;decide,trivial,?_⟩
 refine⟨_,rfl,_,rfl,_,rfl,(by show(0:Int)<12;decide),trivial,?_⟩
 refine⟨_,rfl,_,rfl,⟨by decide,by decide⟩,trivial,?_⟩
 refine(?_:mF _ _ _ [some (.int (n / 12)),some (.int 3),some (ay iG),some (ar [0,1,2]),some (.int (3+n%12)),none,none,none,none,none]);have m12:=jX n 12 (by decide)
 refine⟨_,rfl,⟨by decide,by decide,by show-(2^62)<=3+n%12;omega,by show 3+n%12<2^62;omega⟩,?_⟩
 rw[show(3+n%12-3).toNat=(n%12).toNat by omega]
 refine Ay (λj ρ=>∃(x:Int)(w:W)(R:List Nat)(o4 o5 o6 o7 o8:Option D),ρ= [some (.int x),some (.int 3),some (ay w),some (ar R),some (.int (3+n%12)),o4,o5,o6,o7,o8]/\Gd w R/\w.length=3+j) ?_ ?_ ?_
 ·exact⟨_,[[1,2],[2,0],[0,1]],[0,1,2],_,_,_,_,_,rfl,⟨y1,ET,rfl⟩,rfl⟩
 ·rintro j _ hj ⟨x,w',R',o4,o5,o6,o7,o8,rfl,⟨Gr,Cc,Dg⟩,hl⟩ A hA
  have h3:=Gr.len;have aac:=Gr.Qx;have lR:(R'.map af).length=R'.length:=aG _;have e0:(0:Int)<((R'.map af).length:Int):=by rw[lR];omega
  have e1:(0:Int)<((R'.map af).length:Int)-1:=by rw[lR];omega
  have e2:((R'.map af).length:Int)<=14:=by rw[lR];omega
  refine⟨_,rfl,_,rfl,e0,trivial,?_⟩;refine⟨_,rfl,_,rfl,⟨e0,by omega⟩,_,rfl,e1,trivial,?_⟩
  have m1:=jX x ((R'.map af).length:Int) e0;have m2:=jX (x / ((R'.map af).length:Int)) (((R'.map af).length:Int)-1) e1;generalize KP:x%((R'.map af).length:Int)=at_ at m1;generalize Ul:x / ((R'.map af).length:Int)%(((R'.map af).length:Int)-1)=fr at m2;obtain⟨a,rfl⟩:∃a:Nat,at_=(a:Int):=⟨at_.toNat,by omega⟩
  obtain⟨f',rfl⟩:∃f:Nat,fr=(f:Int):=⟨fr.toNat,by omega⟩
  rw[lR] at m1 m2;have p1:(0:Int)<((R'.map af).length:Int)*(((R'.map af).length:Int)-1):=Int.mul_pos e0 e1;have p2:((R'.map af).length:Int)*(((R'.map af).length:Int)-1)<=14*13:=Int.mul_le_mul e2 (by omega) (by omega) (by decide)
  refine⟨_,rfl,_,rfl,_,rfl, .inl ⟨by omega,by omega⟩,⟨p1,(show((R'.map af).length:Int)*(((R'.map af).length:Int)-1)<1073741824 by omega)⟩,trivial,?_⟩
  clear p1 p2;refine(?_:mF _ _ _ [some (.int (x / (((R'.map af).length:Int)*(((R'.map af).length:Int)-1)))),some (.int 3),some (ay w'),some (ar R'),some (.int (3+n%12)),some (.int (3+(j:Int))),some (.int (x%((R'.map af).length:Int))),some (.int (1+x / ((R'.map af).length:Int)%(((R'.map af).length:Int)-1))),o7,o8]);rw[KP,Ul];generalize x / (((R'.map af).length:Int)*(((R'.map af).length:Int)-1))=x2;have ca:cutD (R'.map af) (some (a:Int)) none=(R'.drop a).map af:=by rw[fW _ _ (by rw[lR];omega),qY]
  have cb:cutD (R'.map af) none (some (a:Int))=(R'.take a).map af:=by rw[gN _ _ (by rw[lR];omega),tj]
  have wA:cB w' (R'.drop a++R'.take a):=by
   have:=Gr
   rw[<-yE a R'] at this;exact this.Qw
  have Q0:CC w' (R'.drop a++R'.take a):=by
   have:=Cc
   rw[<-yE a R'] at this;exact this.Qw
  have VF:(R'.drop a++R'.take a).length=R'.length:=by rw[cx,kN,eD];omega
  have w4:(cutD (R'.map af) (some (a:Int)) none).length+(cutD (R'.map af) none (some (a:Int))).length<=sizeLine:=by
   rw[ca,cb,aG,aG];exact small (by rw[cx] at VF;omega)
  have er:(.lst (cutD (R'.map af) (some (a:Int)) none++cutD (R'.map af) none (some (a:Int))):D)=ar (R'.drop a++R'.take a):=by rw[ca,cb];unfold ar;rw[dO]
  refine⟨_,rfl,_,rfl,_,rfl,_,rfl,w4,trivial,?_⟩;refine(?_:mF _ _ _ [some (.int x2),some (.int 3),some (ay w'),some (.lst (cutD (R'.map af) (some (a:Int)) none++cutD (R'.map af) none (some (a:Int)))),some (.int (3+n%12)),some (.int (3+(j:Int))),some (.int (a:Int)),some (.int (1+(f':Int))),o7,o8]);rw[er];clear er ca cb w4;generalize R'.drop a++R'.take a=R1 at wA VF Q0;have l1:(R1.map af).length=R1.length:=aG _
  have ct:cutD (R1.map af) none (some ((1:Int)+(f':Int)+1))=(R1.take (f'+1+1)).map af:=by
   rw[show(1:Int)+(f':Int)+1=((f'+1+1:Nat):Int) by omega,gN _ _ (by rw[l1];omega),tj]
  refine⟨_,rfl,_,rfl,trivial,?_⟩;refine(?_:mF _ _ _ [some (.int x2),some (.int 3),some (ay w'),some (ar R1),some (.int (3+n%12)),some (.int (3+(j:Int))),some (.int (a:Int)),some (.int (1+(f':Int))),some (.lst (cutD (R1.map af) none (some ((1:Int)+(f':Int)+1)))),o8]);rw[ct];have CJ:(R1.take (f'+1+1)).length=f'+2:=by rw[eD];omega
  have la:((R1.take (f'+1+1)).map af).length=f'+2:=by rw[aG];exact CJ
  have lw:(w'.map ar).length=3+j:=by rw[aG];exact hl
  refine⟨_,rfl,_,rfl,trivial,f7 (by rw[lw];omega),?_⟩
  have ea:(.lst (w'.map ar++ [.lst ((R1.take (f'+1+1)).map af).reverse]):D)=ay (w'++ [(R1.take (f'+1+1)).reverse]):=by
   unfold ay ar;rw[dO,<-List.map_reverse];rfl
  refine(?_:mF _ _ _ [some (.int x2),some (.int 3),some (.lst (w'.map ar++ [.lst ((R1.take (f'+1+1)).map af).reverse])),some (ar R1),some (.int (3+n%12)),some (.int (3+(j:Int))),some (.int (a:Int)),some (.int (1+(f':Int))),some (ar (R1.take (f'+1+1))),o8]);rw[ea];clear ea;have Jj:R1.getD 0 0<w'.length:=wA.Jq (br (by omega))
  have g0:(R1.take (f'+1+1)).getD 0 0=R1.getD 0 0:=by rw[aV,qT (by omega),<-aV]
  have a0:fO ((R1.take (f'+1+1)).map af) (0:Int)=some (af (R1.getD 0 0)):=by
   have:=g8 (ns:=R1.take (f'+1+1)) (p:=0) (by omega)
   rw[g0] at this;exact this
  have lw1:(w'++ [(R1.take (f'+1+1)).reverse]).length=w'.length+1:=by simp
  have a1:=bW (w:=w'++ [(R1.take (f'+1+1)).reverse]) (p:=R1.getD 0 0) (by omega)
  rw[kH,if_neg (by omega)] at a1
  have rl0:=dZ wA.g (R1.getD 0 0);have ev:(3:Int)+(j:Int)=((w'.length:Nat):Int):=by omega
  refine⟨_,rfl,by show 1<=sizeLine;decide,_,rfl,_,rfl,_,rfl,_,a0,_,a1,_,rfl,small (by rw[aG];show 1+_<=1000;omega),?_,_,rfl,_,rfl,_,a0,_,R1.getD 0 0,rfl,bL (by rw[aG];omega),?_⟩
  ·rw[List.all_append,bz];rfl
  have d0:fX ((w'++ [(R1.take (f'+1+1)).reverse]).set (R1.getD 0 0) (w'.length::row w' (R1.getD 0 0)))=fX w'+(f'+2)+1+0:=by
   have:=mG (r:=w'.length::row w' (R1.getD 0 0)) (w:=w'++ [(R1.take (f'+1+1)).reverse]) (p:=R1.getD 0 0) (by omega)
   rw[kH,if_neg (by omega),xj,wk,CJ,cw] at this
   omega
  have M0:=ug.start (w:=w') (R:=R1) (f:=f'+1) Jj
  have es:(.lst (((w'++ [(R1.take (f'+1+1)).reverse]).map ar).set (R1.getD 0 0) (.lst ([.int ((3:Int)+(j:Int))]++(row w' (R1.getD 0 0)).map af))):D)=ay ((w'++ [(R1.take (f'+1+1)).reverse]).set (R1.getD 0 0) (w'.length::row w' (R1.getD 0 0))):=by
   rw[ev];unfold ay;rw[<-dj];rfl
  refine(?_:mF _ _ _ [some (.int x2),some (.int 3),some (.lst (((w'++ [(R1.take (f'+1+1)).reverse]).map ar).set (R1.getD 0 0) (.lst ([.int ((3:Int)+(j:Int))]++(row w' (R1.getD 0 0)).map af)))),some (ar R1),some (.int (3+n%12)),some (.int (3+(j:Int))),some (.int (a:Int)),some (.int (1+(f':Int))),some (ar (R1.take (f'+1+1))),o8]);rw[es];clear es a1
  have cd:cutD ((R1.take (f'+1+1)).map af) (some (1:Int)) none=((R1.take (f'+1+1)).drop 1).map af:=by
   have:=fW ((R1.take (f'+1+1)).map af) 1 (by rw[la];omega)
   rw[qY];exact this
  have ld:((R1.take (f'+1+1)).drop 1).length=f'+1:=by rw[kN,CJ];omega
  refine⟨_,rfl,?_⟩;refine(?_:ko _ _ _ (cutD ((R1.take (f'+1+1)).map af) (some (1:Int)) none) _);rw[cd];refine bx (λk ρ=>∃(w2:W)(o8:Option D),ρ= [some (.int x2),some (.int 3),some (ay w2),some (ar R1),some (.int (3+n%12)),some (.int (3+(j:Int))),some (.int (a:Int)),some (.int (1+(f':Int))),some (ar (R1.take (f'+1+1))),o8]/\ug w' w2 R1 (f'+1) k/\fX w2=fX w'+(f'+2)+1+k) ⟨_,_,rfl,M0,d0⟩ ?_ ?_
  ·rintro k d _ hd ⟨w2,p8,rfl,M,dM⟩ A' u0
   obtain⟨y,hy,rfl⟩:=bN hd
   have hk:k<f'+1:=by
    have:=(dE.mp hy).1
    omega
   have ey:y=R1.getD (k+1) 0:=by
    rw[BL,qT (by omega)] at hy
    rw[aV,Nat.add_comm k 1,hy];rfl
   subst ey;have QQ:R1.getD (k+1) 0<w'.length:=wA.Jq (br (by omega))
   have l2:=M.l;have a2:=bW (w:=w2) (p:=R1.getD (k+1) 0) (by omega)
   have rl:(row w2 (R1.getD (k+1) 0)).length<=14:=by
    rw[M.ro _ (by omega) (λi hi e=>by have:=getD_inj wA.nd (by omega) (by omega) e;omega)]
    have:=dZ wA.g (R1.getD (k+1) 0)
    omega
   refine⟨_,rfl,_,rfl,_,a2,_,rfl,_,rfl,by show 1<=sizeLine;decide,_,rfl,small (by rw[aG];show _+1<=1000;omega),?_,_,rfl,_,rfl,_,R1.getD (k+1) 0,rfl,bL (by rw[aG];omega),?_⟩
   ·rw[List.all_append,bz];rfl
   refine u0 _ ⟨w2.set (R1.getD (k+1) 0) (row w2 (R1.getD (k+1) 0)++ [w'.length]),some (af (R1.getD (k+1) 0)),?_,M.step wA.nd (by omega) (by omega) QQ,by
    have:=mG (r:=row w2 (R1.getD (k+1) 0)++ [w'.length]) (w:=w2) (p:=R1.getD (k+1) 0) (by omega)
    rw[cx,wj] at this
    omega⟩
   have O3:(.lst ((w2.map ar).set (R1.getD (k+1) 0) (.lst ((row w2 (R1.getD (k+1) 0)).map af++ [.int ((3:Int)+(j:Int))]))):D)=ay (w2.set (R1.getD (k+1) 0) (row w2 (R1.getD (k+1) 0)++ [w'.length])):=by
    rw[ev];unfold ay;rw[<-dj];unfold ar;rw[dO];rfl
   rw[<-O3];rfl
  ·rintro _ ⟨w2,p8,rfl,M,dM⟩
   rw[aG,ld] at M dM;have St:=M.fin (by omega) (by omega)
   have G2:=sT wA St
   have cf:cutD (R1.map af) (some ((1:Int)+(f':Int))) none=(R1.drop (f'+1)).map af:=by
    rw[show(1:Int)+(f':Int)=((f'+1:Nat):Int) by omega,fW _ _ (by rw[l1];omega),qY]
   have szf:(2:Nat)+(cutD (R1.map af) (some ((1:Int)+(f':Int))) none).length<=sizeLine:=by
    rw[cf,aG,kN];exact small (by omega)
   refine⟨_,rfl,_,a0,_,rfl,by show 2<=sizeLine;decide,_,rfl,_,rfl,szf,trivial,?_⟩
   refine hA _ ⟨x2,w2,bY R1 (f'+1) w'.length,some (.int (3+(j:Int))),some (.int (a:Int)),some (.int (1+(f':Int))),some (ar (R1.take (f'+1+1))),p8,?_,⟨G2,yw wA St Q0,by
    have:=(lC wA St).len
    have:=M.l
    omega⟩,by rw[M.l];omega⟩
   have ef:(.lst ([af (R1.getD 0 0), .int ((3:Int)+(j:Int))]++cutD (R1.map af) (some ((1:Int)+(f':Int))) none):D)=ar (bY R1 (f'+1) w'.length):=by
    rw[cf,ev];unfold bY ar;rfl
   rw[<-ef];rfl
 ·rintro _ ⟨x,w',R',o4,o5,o6,o7,o8,rfl,⟨Gr,Cc,Dg⟩,hl⟩
  exact⟨_,rfl,_,rfl,by show 2<=sizeLine;decide,q _ _ ⟨Gr,Cc,Dg⟩ (by omega)⟩
end uf
namespace L2
open PySem PySem.Spec PyProof.Rows
section
variable {Z:DC} {X:Cx} {md:List Nat} {rn:Nat} {e:Expr} {pos:Pos}
def Kk(md:List Nat)(i:Nat)(t:gH)(u:cN):cN:=λE ρ=>t (cJ md ρ) λds=>u {nx:=λaA=>(∃d,aA[i]? =some (some d))/\E.nx aA,rt:=E.rt} (ρ.set i (some (.lst ds)))
theorem qj{md:List Nat}{i j n:Nat}(h:j≠i):(md.set i n).getD j 0=md.getD j 0:=by rw[aV,aV,jv (Ne.symm h)]
theorem y0{md:List Nat}{i n:Nat}(h:i<md.length):(md.set i n).getD i 0=n:=by rw[aV,iH h];rfl
theorem B6(i n:Nat){x:Str}{pos':Pos}{t:gH}{rest:List Stmt}{u:cN}(hN:X.N.Nodup)(he:DF Z X n e t)(h:pM Z X (md.set i n) 0 rest u)(hmi:md.getD i 0=0:=by rfl)(PB:i<md.length:=by decide)(hi:X.N[i]? =some x:=by rfl)(hx:Loc X.env.scope x:=by first|exact Or.inl rfl|exact Or.inr rfl)(hs:swapsWith e (some (.Name x pos')) pos.line X.env=pure false:=by rfl)
  (hf:X.fn x=true\/X.env.scope.names.lookup x=some .local:=by first|exact .inl rfl|exact .inr rfl|assumption):pM Z X md 0 (.Assign [.Name x pos'] e pos::rest) (Kk md i t u):=by
 refine me.imp (gU (lB hN hi hx he hs hf) h) ?_;rintro D σ H ⟨B,ρ,E,⟨G,fp,S⟩,h,M⟩;refine⟨G,_,_,S.ex.sub,S.qf,h,λds hd v f G' H' x o nd nw=>?_⟩;have S1:=S.grow x
 have YL:SIx Z B (md.set i n) (ρ.set i none) σ H' G' fp:=⟨S1.ex,S1.fl,by rw[dB];exact S1.len,λj d hj=>by
  by_cases z:j=i
  ·subst z
   rw[hZ] at hj;rw[if_pos rfl] at hj
   split at hj<;>cases hj
  ·rw[jv (Ne.symm z)] at hj
   rw[qj z];exact S1.at_ j d hj,S1.nd,S1.ap,S1.nw⟩
 have S2:=YL.Jr (y0 PB) o nd (λb hb=>⟨S.ex.hh.free (nw b hb).1,(nw b hb).2⟩) λb hb j _ hj=>(S.nw j b hj).2.1 (nw b hb).1;rw[List.set_set] at S2;refine⟨B,_,_,⟨G',_,S2⟩,hd,⟨?_,M.rt,λ_ z=>z.elim,λ_ z=>z.elim,λ_ _ z=>z.elim⟩⟩;rintro aA ⟨⟨d,gP⟩,hE⟩ az tu ⟨G3,fp3,S3⟩;obtain⟨v3,hv3,OZ,S4⟩:=S3.L3 gP;refine M.nx aA hE _ _ ⟨_,_,⟨S4.ex,S4.fl,S3.len,λj c hj=>?_,S4.nd,S4.ap,S4.nw⟩⟩
 by_cases z:j=i
 ·subst z
  rw[gP] at hj;cases hj;refine⟨v3,hv3,?_⟩;rw[hmi,if_pos rfl];exact⟨OZ,rfl⟩
 ·obtain⟨u',hu,ow⟩:=S4.at_ j c (by rw[jv (Ne.symm z)];exact hj)
  rw[qj z] at ow;exact⟨u',hu,ow⟩
end
end L2
namespace uf
open PySem L2 Wb
variable {P:Program} {w:World} {mg:Str->Option Value} {base:Heap} {Z:DC} (T:Txt Z mg)
open Wy
def F6:b9:=λds P=>∃(w:W)(R:List Nat),ds= [ay w,ar R]/\Gd w R/\w.length<=7/\∀v,i9 v->v.length<=8->P (ay v)
theorem tM:FnOk P w Z.K mg base bQ 1 T.d__law_closed.f T.d__law_closed.fd ["_law_turns","_law_ring"] (aM Z F6):=by
 have nd:=lQ.nd;refine aP T.d__law_closed.F lQ [0,0,0,0] (by decide) (λds R h=>by obtain⟨_,_,rfl,_⟩:=h;rfl) (λbh A outer s H E ds R hr h=>?_)
 have hu:=hr.units
 refine⟨_,(ah (bM (aS vq (aD aZ rfl T.B.len aY (ab (aa 1) ae)) ai (bf _)) (ah (aH true 2 nd (aD aZ rfl T.B.len aY (ab (aa 0) ae)))
   (B6 0 1 nd (nS (aa 0) (bG (ab (sr rfl rfl T.B.list rfl T.B.reversed (ab (aa 1) ae)) ae)))
   (ah (jf 0 (aO (aa 1) ai) (nS (bG (ab (aa 2) ae)) (aO (aa 0) (aO (aa 1) ai))))
   (ao (bR rfl PassesOwn.never (bF (cO (aa 1) (dW ai) dU)) (aB 3 nd) (ao (jf 0 (aa 3) (nS (aO (aa 0) (aa 3)) (bG (ab (aa 2) ae)))))))))) aX) (ao (aL (aa 0)))),?_⟩
 obtain⟨w',R',rfl,⟨Gr,Cc,Dg⟩,h7,q⟩:=h;have h3:=Gr.len;have hrs:=Gr.Qx;have lR:(R'.map af).length=R'.length:=aG _;have lw:(w'.map ar).length=w'.length:=aG _;refine⟨_,rfl,?_⟩;dsimp only[cZ,eY,ar];refine⟨_,rfl,cH (λe=>?_) (λe=>?_)⟩
 ·have e:=of_decide_eq_true e
  have hl:3<R'.length:=by omega
  refine⟨_,rfl,?_⟩;dsimp only[cZ,eY,ay];refine⟨rfl,?_⟩;obtain⟨f',hf⟩:∃f',R'.length=f'+2:=⟨R'.length-2,by omega⟩
  have tk:R'.take (f'+1+1)=R':=EK (by omega)
  refine⟨_,rfl,_,rfl,_,rfl,by show 1<=sizeLine;decide,_,rfl,small (by rw[lw];show _+1<=1000;omega),?_⟩
  have Jj:R'.getD 0 0<w'.length:=Gr.Jq (br (by omega))
  have a0:fO (R'.map af) (0:Int)=some (af (R'.getD 0 0)):=g8 (ns:=R') (p:=0) (by omega)
  have lw1:(w'++ [R'.reverse]).length=w'.length+1:=by simp
  have a1:=bW (w:=w'++ [R'.reverse]) (p:=R'.getD 0 0) (by omega)
  rw[kH,if_neg (by omega)] at a1
  have rl0:=dZ Gr.g (R'.getD 0 0)
  refine fe [some (ay (w'++ [R'.reverse])),some (ar R'),some (.int (w'.length:Int)),none] (by
   rw[lw];unfold ay ar;rw[dO,<-List.map_reverse];rfl) ?_
  refine⟨_,rfl,by show 1<=sizeLine;decide,_,rfl,_,rfl,_,rfl,_,a0,_,a1,_,rfl,small (by rw[aG];show 1+_<=1000;omega),?_,_,rfl,_,rfl,_,a0,_,R'.getD 0 0,rfl,bL (by rw[aG];omega),?_⟩
  ·rw[List.all_append,bz];rfl
  have d0:fX ((w'++ [R'.reverse]).set (R'.getD 0 0) (w'.length::row w' (R'.getD 0 0)))=fX w'+(f'+2)+1+0:=by
   have:=mG (r:=w'.length::row w' (R'.getD 0 0)) (w:=w'++ [R'.reverse]) (p:=R'.getD 0 0) (by omega)
   rw[kH,if_neg (by omega),xj,wk,hf,cw] at this
   omega
  have M0:=ug.start (w:=w') (R:=R') (f:=f'+1) Jj;rw[tk] at M0
  have cd:cutD (R'.map af) (some (1:Int)) none=(R'.drop 1).map af:=by
   have:=fW (R'.map af) 1 (by rw[lR];omega)
   rw[qY];exact this
  have ld:(R'.drop 1).length=f'+1:=by rw[kN];omega
  refine⟨_,rfl,?_⟩;refine(?_:ko _ _ _ (cutD (R'.map af) (some (1:Int)) none) _);rw[cd];refine bx (λk ρ=>∃(w2:W)(o3:Option D),ρ= [some (ay w2),some (ar R'),some (.int (w'.length:Int)),o3]/\ug w' w2 R' (f'+1) k/\fX w2=fX w'+(f'+2)+1+k) ⟨(w'++ [R'.reverse]).set (R'.getD 0 0) (w'.length::row w' (R'.getD 0 0)),none,?_,M0,d0⟩ ?_ ?_
  ·unfold ay
   rw[<-dj];rfl
  ·rintro k d _ hd ⟨w2,p8,rfl,M,dM⟩ A' u0
   obtain⟨y,hy,rfl⟩:=bN hd
   have hk:k<f'+1:=by
    have:=(dE.mp hy).1
    omega
   have ey:y=R'.getD (k+1) 0:=by
    rw[BL] at hy;rw[aV,Nat.add_comm k 1,hy];rfl
   subst ey;have QQ:R'.getD (k+1) 0<w'.length:=Gr.Jq (br (by omega))
   have l2:=M.l;have a2:=bW (w:=w2) (p:=R'.getD (k+1) 0) (by omega)
   have rl:(row w2 (R'.getD (k+1) 0)).length<=14:=by
    rw[M.ro _ (by omega) (λi hi e=>by have:=getD_inj Gr.nd (by omega) (by omega) e;omega)]
    have:=dZ Gr.g (R'.getD (k+1) 0)
    omega
   refine⟨_,rfl,_,rfl,_,a2,_,rfl,_,rfl,by show 1<=sizeLine;decide,_,rfl,small (by rw[aG];show _+1<=1000;omega),?_,_,rfl,_,rfl,_,R'.getD (k+1) 0,rfl,bL (by rw[aG];omega),?_⟩
   ·rw[List.all_append,bz];rfl
   refine u0 _ ⟨w2.set (R'.getD (k+1) 0) (row w2 (R'.getD (k+1) 0)++ [w'.length]),some (af (R'.getD (k+1) 0)),?_,M.step Gr.nd (by omega) (by omega) QQ,by
    have:=mG (r:=row w2 (R'.getD (k+1) 0)++ [w'.length]) (w:=w2) (p:=R'.getD (k+1) 0) (by omega)
    rw[cx,wj] at this
    omega⟩
   have O3:(.lst ((w2.map ar).set (R'.getD (k+1) 0) (.lst ((row w2 (R'.getD (k+1) 0)).map af++ [.int (w'.length:Int)]))):D)=ay (w2.set (R'.getD (k+1) 0) (row w2 (R'.getD (k+1) 0)++ [w'.length])):=by
    unfold ay;rw[<-dj];unfold ar;rw[dO];rfl
   rw[<-O3];rfl
  ·rintro _ ⟨w2,p8,rfl,M,dM⟩
   rw[aG,ld] at M dM;have St:=M.fin (by omega) (by omega)
   have G2:=sT Gr St;have rl:=(lC Gr St).len;have l2:=M.l;exact⟨⟨_,rfl⟩,_,rfl,q _ (G2.TQ (yw Gr St Cc) (by omega) (by omega)) (by omega)⟩
 ·have e:=of_decide_eq_false e
  exact⟨_,rfl,q _ (Gr.TQ Cc Dg (by omega)) (by omega)⟩
variable {P:Program} {w:World} {mg:Str->Option Value} {base:Heap} {Z:DC} (T:Txt Z mg)
structure NR (w F:W) (ns:List Nat) (k:Nat):Prop where
 l:F.length=w.length
 r:∀i,i<k->∃a b,row w i=a++b/\row F (ns.getD i 0)=(b++a).map λx=>ns.getD x 0
theorem NR.step{w F:W}{ns:List Nat}{k a:Nat}(h:NR w F ns k)(N:yI w.length ns)(hk:k<w.length):NR w (F.set (ns.getD k 0) (((row w k).drop a++(row w k).take a).map λx=>ns.getD x 0)) ns (k+1):=by
 have lt:ns.getD k 0<F.length:=by rw[h.l];exact N.2.2 _ (br (by rw[N.1];exact hk))
 refine⟨by rw[dB];exact h.l,λi hi=>?_⟩
 by_cases c:i=k
 ·subst c
  exact⟨(row w i).take a,(row w i).drop a,(yE _ _).symm,by rw[qG lt,if_pos rfl]⟩
 ·obtain⟨x,y,e1,e2⟩:=h.r i (by omega)
  exact⟨x,y,e1,by rw[qG lt,if_neg (λz=>c (getD_inj N.2.1 (by rw[N.1];omega) (by rw[N.1];omega) z.symm)),e2]⟩
theorem NR.Qu{w F:W}{ns:List Nat}(h:NR w F ns w.length)(N:yI w.length ns):tw w F λx=>ns.getD x 0 where
 len:=h.l
 lt:=λx hx=>N.2.2 _ (br (by rw[N.1];exact hx))
 inj:=λx y hx hy e=>getD_inj N.2.1 (by rw[N.1];exact hx) (by rw[N.1];exact hy) e
 onto:=λy hy=>by
  obtain⟨i,hi,e⟩:=jP.mp (vm N hy);exact⟨i,by rw[N.1] at hi;exact hi,by rw[aV,bO hi];exact e⟩
 rows:=λx hx=>h.r x hx
def Bu:b9:=λds P=>∃(w:W)(num:Int),ds= [ay w, .int num]/\i9 w/\w.length<=8/\∀F,i9 F->F.length=w.length->P (ay F)
theorem vy:FnOk P w Z.K mg base bQ 1 T.d__law_named.f T.d__law_named.fd ["_law_turns","_law_number"] (aM Z Bu):=by
 have nd:=m8.nd;refine aP T.d__law_named.F m8 [0,0,1,0,1,0,0] (by decide) (λds R h=>by obtain⟨_,_,rfl,_⟩:=h;rfl) (λbh A outer s H E ds R hr h=>?_)
 have hu:=hr.units
 refine⟨_,(ah (kX 2 nd (fh ae))
   (ah (uK rfl PassesOwn.never (uI rfl T.B.range (ab (aD aZ rfl T.B.len aY (ab (aa 0) ae)) ae)) (aB 3 nd) (ah (KA false 2 (ax cV (aa 1) (ax aN (aa 3) ai)) (aa 3))
   (ao (aH false 1 nd (ax fS (aa 1) (ax aN (aa 3) ai))))))
   (ah (kh 4 (NC:= ["_law_row"]) (src:= [none]) rfl nd (mh (aq fQ)) trivial (bF (aa 0)) (λ_ _ _=>(bE 0 (show(["_law_row"]:List Str).Nodup from by decide+kernel))) (λ_ _ _=>cE) (λ_ _ _=>(bG ae)))
   (ah (bR rfl PassesOwn.never (cD rfl T.B.enumerate (ab (aa 0) ae)) (cU 2 rfl (aF (aB 3 nd) (aF (aB 5 nd) bK))) (ah (aH false 6 nd (ax cV (aa 1) (aD (z7 rfl) rfl T.B.max DY (ab ai (ab (aD aZ rfl T.B.len aY (ab (aa 5) ae)) ae)))))
   (ah (aH false 1 nd (ax fS (aa 1) (aD (z7 rfl) rfl T.B.max DY (ab ai (ab (aD aZ rfl T.B.len aY (ab (aa 5) ae)) ae)))))
   (ao (jf 4 (aO (aa 2) (aa 3)) (Hb (NC:= ["_law_other","_law_names"]) (src:= [none,some 2]) rfl (mh (aq fQ)) ⟨rfl,rfl,trivial⟩ (bF (ax aN (cO (aa 5) (dW (aa 6)) dU) (cO (aa 5) dU (dW (aa 6))))) (λ_ _ _=>(bE 0 (show(["_law_other","_law_names"]:List Str).Nodup from by decide+kernel))) (λ_ _ _=>cE) (λ_ _ _=>(aO (aa 1) (aa 0)))))))))
   (ao (aL (aa 4))))))),?_⟩
 obtain⟨w',num,rfl,Fl,h8,q⟩:=h;have g:=Fl.g;have h3:=Fl.n3;have lw:(w'.map ar).length=w'.length:=aG _;refine⟨by show 0<=sizeLine;decide,?_⟩
 refine⟨_,rfl,⟨by omega,by show((w'.map ar).length:Int)<2^62;omega⟩,?_⟩
 rw[show(((w'.map ar).length:Int)).toNat=w'.length by omega]
 refine xG (λj ρ=>∃(y:Int)(ns:List Nat)(o4 o5 o6 o7:Option D),ρ= [some (ay w'),some (.int y),some (ar ns),o4,o5,o6,o7]/\yI j ns) ⟨num,[],_,_,_,_,rfl,rfl,ic,λx h=>by cases h⟩ ?_ ?_
 ·rintro j _ hj ⟨y,ns,o4,o5,o6,o7,rfl,hl,nd,lt⟩ A hA
  have mq:=jX y ((j:Int)+1) (by omega)
  have lr:(ns.map af).length=j:=by rw[aG,hl]
  refine⟨_,rfl,_,rfl,_,rfl,by show(0:Int)<(j:Int)+1;omega,_,rfl,_,rfl,trivial,⟨mq.1,by rw[lr];show y%((j:Int)+1)<=_;omega,f7 (by rw[lr];omega)⟩,?_⟩
  refine⟨_,rfl,_,rfl,⟨by show(0:Int)<(j:Int)+1;omega,by show(j:Int)+1<1073741824;omega⟩,trivial,?_⟩
  refine hA _ ⟨y / ((j:Int)+1),ins ns (y%((j:Int)+1)).toNat j,some (af j),o5,o6,o7,?_,by rw[AJ,hl],CO nd (λz=>by have:=lt j z;omega),λx hx=>?_⟩
  ·unfold ar;rw[<-Fq];rfl
  ·rcases Ih.mp hx with rfl|hx
   ·omega
   ·have:=lt x hx;omega
 ·rintro _ ⟨y,ns,o4,o5,o6,o7,rfl,N⟩
  refine⟨_,rfl,iO (ρ:= [none]) ar (λ_=> .lst []) w' _ (λy hy Y h=>⟨by show 0<=sizeLine;decide,h⟩) rfl (small (by omega)) λaA=>?_⟩
  have e0:(.lst (w'.map λ_=>(.lst []:D)):D)=ay (w'.map λ_=> []):=by unfold ay;rw[eF];rfl
  refine(?_:mF _ _ _ [some (ay w'),some (.int y),some (ar ns),o4,some (.lst (w'.map λ_=>(.lst []:D))),o6,o7]);rw[e0];refine⟨_,rfl,bx (λk ρ=>∃(y:Int)(F:W)(o4 o6 o7:Option D),ρ= [some (ay w'),some (.int y),some (ar ns),o4,some (ay F),o6,o7]/\NR w' F ns k) ⟨_,_,_,_,_,rfl,by simp,λi h=>by omega⟩ ?_ ?_⟩
  ·rintro k d _ hd ⟨y,F,p4,p6,p7,rfl,nr⟩ A hA
   obtain⟨d',hy,rfl⟩:=eQ hd;obtain⟨r,wL,rfl⟩:=bN hy;have hk:k<w'.length:=(dE.mp wL).1;have er:row w' k=r:=EB wL
   have aag:0<r.length:=by
    have:=g.zE (by omega) hk
    rw[er] at this;exact zP.mpr this
   have rl:=dZ g k;rw[er] at rl;have lr:(r.map af).length=r.length:=aG _;have e1:(0:Int)<((r.map af).length:Int):=by rw[lr];omega
   refine⟨rfl,rfl,?_⟩;have mx:(if ((r.map af).length:Int)>1 then((r.map af).length:Int) else 1)=((r.map af).length:Int):=by split<;>omega
   refine⟨_,rfl,_,rfl,?_⟩;dsimp only[cZ,eY,ar];refine⟨_,_,rfl,?_⟩;rw[mx];refine⟨e1,trivial,?_⟩;refine⟨_,rfl,_,rfl,?_⟩;dsimp only[cZ,eY,ar];refine⟨_,_,rfl,?_⟩;rw[mx];refine⟨⟨e1,by rw[lr];omega⟩,trivial,?_⟩
   have m1:=jX y ((r.map af).length:Int) e1;refine zo [some (ay w'),some (.int (y / ((r.map af).length:Int))),some (ar ns),some (af k),some (ay F),some (ar r),some (.int (y%((r.map af).length:Int)))] rfl ?_;generalize KP:y%((r.map af).length:Int)=at_ at m1;obtain⟨a,rfl⟩:∃a:Nat,at_=(a:Int):=⟨at_.toNat,by omega⟩
   rw[lr] at m1;have ca:cutD (r.map af) (some (a:Int)) none=(r.drop a).map af:=by rw[fW _ _ (by rw[lr];omega),qY]
   have cb:cutD (r.map af) none (some (a:Int))=(r.take a).map af:=by rw[gN _ _ (by rw[lr];omega),tj]
   have l2:(r.drop a++r.take a).length=r.length:=by rw[cx,kN,eD];omega
   have w4:(cutD (r.map af) (some (a:Int)) none).length+(cutD (r.map af) none (some (a:Int))).length<=sizeLine:=by
    rw[ca,cb,aG,aG];exact small (by rw[cx] at l2;omega)
   refine⟨_,rfl,_,rfl,_,rfl,_,rfl,w4,?_⟩;refine(?_:lcW _ _ _ (cutD (r.map af) (some (a:Int)) none++cutD (r.map af) none (some (a:Int))) _ _ _);rw[ca,cb,<-dO];refine iO (ρ:= [none,some (ar ns)]) af (λo=>af (ns.getD o 0)) (r.drop a++r.take a) _ (λo ho Y hY=>?_) rfl (small (by omega)) λaA=>?_
   ·have:o∈r:=by
     have:o∈r.take a++r.drop a:=List.perm_append_comm.mem_iff.mp ho
     rw[yE] at this;exact this
    have cG:o<ns.length:=by rw[N.1];exact g.rng k o (by rw[er];exact this)
    exact⟨_,rfl,_,rfl,_,g8 cG,hY⟩
   ·have Uy:k<ns.length:=by rw[N.1];exact hk
    have nlt:ns.getD k 0<F.length:=by rw[nr.l];exact N.2.2 _ (br Uy)
    refine⟨?_,_,rfl,_,rfl,_,rfl,_,g8 Uy,_,ns.getD k 0,rfl,bL (by rw[aG];exact nlt),?_⟩
    ·rw[List.all_map,kO];intro x _;rfl
    ·have VP:=nr.step (a:=a) N hk
     rw[er] at VP;refine hA _ ⟨y / ((r.map af).length:Int),_,some (af k),some (ar r),some (.int (a:Int)),?_,VP⟩
     have es:(.lst ((F.map ar).set (ns.getD k 0) (.lst ((r.drop a++r.take a).map λo=>af (ns.getD o 0)))):D)=ay (F.set (ns.getD k 0) ((r.drop a++r.take a).map λx=>ns.getD x 0)):=by
      unfold ay;rw[<-dj];unfold ar;rw[eF];rfl
     rw[<-es];rfl
  ·rintro _ ⟨y,F,p4,p6,p7,rfl,nr⟩
   rw[fo,lw] at nr;have Rn:=nr.Qu N;have pm:ns.Perm (List.range w'.length):=(yB N.2.1 List.nodup_range).mpr λx=>⟨λh=>cT.mpr (N.2.2 x h),λh=>vm N (cT.mp h)⟩;exact⟨_,rfl,q F (Fl.Qu pm Rn) nr.l⟩
end uf
namespace L2
open PySem PySem.Spec PyProof.Rows
abbrev uc:=DN->(List (List D)->Prop)->Prop
def Li(Z:DC)(t:uc):TA:=λσ H Q=>∃(G:Hp)(ρ:DN)(P:List (List D)->Prop),aK G H/\dk Z G σ ρ/\t ρ P/\∀VH,P VH->∀vs fs G' H',Ext G H G' H'->bT (Own Z G' H' 1) vs (VH.map D.lst) fs->fs.Nodup->(∀b∈fs,H b=none/\H' b≠none/\G' b=none)->Q vs H'
def J7(Z:DC)(X:Cx)(es:List Expr)(t:uc):Prop:=PA X es (Li Z t)
section
variable {Z:DC} {X:Cx} {md:List Nat} {rn:Nat} {e k k2:Expr} {es:List Expr} {pos:Pos} {te tk tp:bg} {t:gH} {u:uc}
def O8:uc:=λ_ P=>P []
def KL(t:gH)(u:uc):uc:=λρ P=>t ρ λl=>u ρ λls=>P (l::ls)
theorem uH:J7 Z X [] O8:=fU.imp λσ H Q ⟨G,ρ,P,s,en,h,q⟩=>q [] h [] [] G H (.refl s) .nil ic λb hb=>by cases hb
theorem gf(ha:DF Z X 1 e t)(hb:J7 Z X es u)(hs:starEach (e::es) X.env=(false,eval e X.env)::starEach es X.env:=by rfl):J7 Z X (e::es) (KL t u):=by
 refine(cS ha hb hs).imp ?_;rintro σ H Q ⟨G,ρ,P,s,en,h,q⟩;refine⟨G,ρ,_,s,en,h,λl1 h1 v1 f1 G1 H1 x1 o1 CM vp=>?_⟩;refine⟨G1,ρ,_,x1.sub,en.mono x1.gg,h1,λls h2 vs fs G2 H2 x2 o2 mN wQ=>?_⟩;refine q _ h2 _ (f1++fs) G2 H2 (x1.trans x2) (.cons (o1.keep x2.gg λb hb=>?_) o2) ?_ ?_
 ·cases z:H1 b with
  |none=>exact absurd z (vp b hb).2.1
  |some o=>exact x2.hh _ _ z
 ·rw[gF]
  refine⟨CM,mN,λa ha b hb z=>?_⟩;subst z;exact(vp a ha).2.1 (wQ a hb).1
 ·intro b hb
  rcases fK.mp hb with hb|hb
  ·exact⟨(vp b hb).1,eB x2.hh (vp b hb).2.1,x2.off b (vp b hb).2.1 (vp b hb).2.2⟩
  ·exact⟨x1.hh.free (wQ b hb).1,(wQ b hb).2⟩
def O7(u:uc):gH:=λρ P=>u ρ λls=>ls.length<=sizeLine/\P (ls.map D.lst)
theorem uG(ha:J7 Z X es u):DF Z X 2 (.List es pos) (O7 u):=by
 refine(qy ha).imp ?_;rintro σ H Q ⟨G,ρ,P,s,en,h,q⟩;refine⟨G,ρ,_,s,en,h,λls hl vs fs G1 H1 x1 o nd nw=>?_⟩;have le:=o.length;rw[aG] at le;refine⟨by rw[le];exact hl.1,λp hp=>?_⟩
 have np:∀b∈fs,b≠p:=λb hb z=>(nw b hb).2.1 (by rw[z];exact hp)
 refine q _ hl.2 (.ref p) (p::fs) G1 _ (x1.side hp) (.inl ⟨p,vs,_,_,rfl,rfl,av,rfl,o.imp λv d f hf od=>od.keep (.refl _) λb hb=>aw (np b (hf b hb))⟩) ?_ ?_
 ·exact eE.mpr ⟨λz=>np p z rfl,nd⟩
 ·intro b hb
  rcases cm.mp hb with rfl|hb
  ·exact⟨x1.hh.free hp,(by rw[av];exact λz=>nomatch z),x1.sub.free hp⟩
  ·exact⟨(nw b hb).1,(by rw[aw (np b hb)];exact(nw b hb).2.1),(nw b hb).2.2⟩
def Kq(md:List Nat)(m:Bool)(i:Nat)(tp tk te:bg):cN:=λE ρ=>te (BD md m ρ) λd=>nW m d/\∃jy,ρ[i]? =some (some (.lst jy))/\tp ρ λpp=>∃p j ds,pp= .int p/\jj jy.length p=some j/\jy[j]? =some (.lst ds)/\tk ρ λkk=>∃q r,kk= .int q/\jj ds.length q=some r/\E.nx (ρ.set i (some (.lst (jy.set j (.lst (ds.set r d))))))
theorem xn(m:Bool)(i:Nat){x:Str}{px ps C5:Pos}(hp:DE Z X k tp)(hk:DE Z X k2 tk)(he:DE Z X e te)(hm:md.getD i 0=2:=by rfl)(Co:ui k:=by exact λ_ _=>rfl)(hi:X.N[i]? =some x:=by rfl)(hv:kT X.env.scope x:=by first|exact Or.inl rfl|exact Or.inr (Or.inl rfl) |exact Or.inr (Or.inr rfl))(hd:(x==("__debug__":Str))=false:=by decide)(dG:(x==("__classdict__":Str))=false:=by decide)
  (ha:∀v,assign (.Subscript (.Subscript (.Name x px) k ps) k2 C5) X.env v=(do
   let ov <-holding [v] (eval (.Subscript (.Name x px) k ps) X.env)
   let iv <-holding [v,ov] (eval k2 X.env)
   standAt C5
   holding [v,ov,iv] (setItem ov iv v)
   release [v,ov,iv] []):=by intro _;rfl)
  (hs:swapsWithSole [.Subscript (.Subscript (.Name x px) k ps) k2 C5] e pos.line X.env=pure false:=by rfl) (hw:swappedStores [.Subscript (.Subscript (.Name x px) k ps) k2 C5] e X.env=pure none:=by rfl)
  (h1:(assignEach [.Subscript (.Subscript (.Name x px) k ps) k2 C5] X.env).map (·.2)= [assign (.Subscript (.Subscript (.Name x px) k ps) k2 C5) X.env]:=by rfl):DSt Z X md rn (.Assign [.Subscript (.Subscript (.Name x px) k ps) k2 C5] e pos) (Kq md m i tp tk te):=by
 refine(nY he (qA (IM AQ (pv i hi hv hd dG) hp Co) hk set_list ha) hs hw h1).imp ?_;intro D σ H aJ;rfl';obtain⟨B,ρ,E,⟨G,fp,S⟩,h,M⟩:=aJ;ac_rfl;refine S.ev m h λd hd=>⟨hd.1,λv G1 H1 S1 x1 dv=>?_⟩;rfl';obtain⟨_,jy,h1,h⟩:=hd;obtain⟨v0,ji,o⟩:=S1.at_ i _ h1;ac_rfl;refine⟨_,ji,S1.ev true h ?_⟩;rintro _ ⟨p,j,ds,rfl,hj,hd2,h⟩;refine⟨rfl,λv1 G2 H2 S2 x2 rD=>?_⟩;rfl';cases rD.ofInt;obtain⟨T,ys,l,xs,fY,e1,e2,e3,e4,e5,e6,bw,_⟩:=S2.two hm h1 hd2;rw[e2] at ji;cases ji;ac_rfl;refine⟨T,ys,p, .ref l,rfl,rfl,bU.of e3,DV e4 hj e5,S2.ev true h ?_⟩;rintro _ ⟨q,r,rfl,hr,hn⟩;refine⟨rfl,λv2 G3 H3 S3 x3 p9=>?_⟩;rfl';cases p9.ofInt;obtain⟨T',ys',l',gW,OY,O0,gI,uP,e4',TC,e6',Nq,put⟩:=S3.two hm h1 hd2;cases O0;ac_rfl;rw[e2] at gI;cases gI
 have:ys'=ys:=by
  have:=x3.hh _ _ e3
  rw[uP] at this;cases this;rfl
 rw[this,e5] at TC;cases TC;exact⟨l,gW,q,r,rfl,rfl,e6',by rw[Nq.length];exact hr,M.nx _ hn _ _ ⟨G3,fp,put _ _ (Nq.set ((dv.mono x2.gg).mono x3.gg) r)⟩⟩
end
open Classical in
noncomputable def o9(H:Hp)(f:List Addr):Hp:=λb=>if b∈f then none else H b
theorem kB{H:Hp}{f:List Addr}{b:Addr}(h:b∉f):o9 H f b=H b:=if_neg h
theorem xR{H:Hp}{f:List Addr}{b:Addr}(h:b∈f):o9 H f b=none:=if_pos h
theorem AV{H:Hp}{f:List Addr}:aK (o9 H f) H:=λb o e=>by
 by_cases z:b∈f
 ·rw[xR z] at e;cases e
 ·rw[kB z] at e;exact e
def qr(Z:DC)(n:Nat)(sd:b9):Sp:=λvs H Q _=>∃(G:Hp)(v:V)(us:List V)(f0:List Addr)(d:D)(ds:List D)(P:D->Prop),vs=v::us/\aK G H/\Own Z G H n v d f0/\f0.Nodup/\(∀b∈f0,H b≠none/\G b=none)/\DvAll Z G us ds/\sd (d::ds) P/\
 ∀d',P d'->∀v' f G' H',Ext G (o9 H f0) G' H'->Own Z G' H' n v' d' f->f.Nodup->(∀b∈f,o9 H f0 b=none/\H' b≠none/\G' b=none)->Q v' H'
section
variable {P:Program} {w:World} {K:PySem.W.Frag} {mg:Str->Option Value} {base:Heap} {Z:DC}
theorem xD(rn:Nat){x qual:Str}{st:Stmt}{f:Addr}{fd:FuncData}{N ps:List Str}{k:Nat}{sd:b9}(F:ue K x qual st f fd)(S:aC N ps (aq st))(md:List Nat)(HI:∀i,0<i->i<ps.length->md.getD i 0=0)(hm0:md.getD 0 0=rn)(len:∀ds P,sd ds P->ds.length=ps.length)
  (kY:∀(bh:Value)(A:Around)(outer:List Env)(s:Shared)(H:Hp)(E:XK)(ds:List D)(R:D->Prop),cn k (A.deeper (envOfC qual (aq st) s.heap.objs.size f bh))->sd ds R->
   ∃t,pM Z (pS bQ P w K mg base N qual (aq st) f bh A outer s H E).jz md rn (fm st) t/\t {nx:=λ_=>False,rt:=R} (lH N ds)):FnOk P w K mg base bQ (k+1) f fd ps (qr Z rn sd):=by
 refine F.ok S (λvs H Q E h=>?_) (λbh A outer s H vs Q E hr h=>?_)
 ·obtain⟨G,v,us,f0,d,ds,R,rfl,_,_,_,_,dv,h,_⟩:=h
  have:=len _ _ h
  rw[cw] at this ⊢;rw[dv.length];exact this
 obtain⟨G,v,us,f0,d,ds,R,rfl,s0,ow,nd0,nw0,dv,h,q⟩:=h;obtain⟨t,ht,hq⟩:=kY bh A outer s H E _ R hr h;have hl:=len _ _ h;rw[cw] at hl;have lu:us.length=ds.length:=dv.length;refine⟨_,ht,⟨G,o9 H f0,G⟩,_,_,⟨G,λi=>if i=0 then f0 else[],?_⟩,hq,⟨λ_ z=>z.elim,q,λ_ z=>z.elim,λ_ z=>z.elim,λ_ _ z=>z.elim⟩⟩;refine⟨⟨.refl _,s0,AV,λ_ _ h=>h⟩, .refl _,by unfold lH start;simp[dv.length],λi d' hi=>?_,λi=>?_,(λi j b ne hi hj=>?_),(λi b hb=>?_)⟩
 ·unfold lH at hi
  have tF:i<(d::ds).length:=by
   apply Classical.byContradiction;intro z;rw[hU (by simpa using gL z),nK] at hi
   split at hi<;>cases hi
  rw[gk (by simpa using tF),cA] at hi
  have gP:(d::ds)[i]? =some d':=by
   cases z:(d::ds)[i]? with
   |none=>rw[z] at hi;cases hi
   |some d'=>rw[z] at hi;cases hi;rfl
  have st:∀u,(v::us)[i]? =some u->(start N (v::us))[i]? =some (some u):=λu hu=>by
   unfold start;have hiu:i<(v::us).length:=(dE.mp hu).1;rw[gk (by simpa using hiu),cA,hu];rfl
  match i with
  |0=>
   cases gP;refine⟨v,st v rfl,?_⟩;rw[hm0,if_pos rfl];exact ow
  |i+1=>
   obtain⟨u,hu,du⟩:=dv.get gP;refine⟨u,st u hu,?_⟩;rw[HI (i+1) (by omega) (by rw[<-hl];exact tF),if_neg (by omega)]
   exact⟨du,rfl⟩
 ·split
  ·exact nd0
  ·exact ic
 ·split at hi
  ·split at hj
   ·omega
   ·cases hj
  ·cases hi
 ·split at hb
  ·exact⟨xR hb,nw0 b hb⟩
  ·cases hb
end
section
variable {Z:DC} {X:Cx} {md:List Nat} {rn:Nat} {e:Expr} {es:List Expr} {pos aU:Pos} {t:gn} {tf:gH}
def OK(md:List Nat)(i:Nat)(sd:b9)(t:gn):cN:=λE ρ=>∃d,ρ[i]? =some (some d)/\t (cJ md ρ) λds=>sd (d::ds) λd'=>E.nx (ρ.set i (some d'))
theorem Am(i n:Nat){sd:b9}{k j:Nat}{x f:Str}{st:Stmt}{ps:List Str}{px py p:Pos}(hN:X.N.Nodup)(d:dF X.K X.mg f st ps)(F:FnOk X.prog X.w X.K X.mg X.base bQ k d.f d.fd ps (qr Z n sd))(hr:cn j X.A)(ha:DA Z X es t)(hg:Gl X f:=by rfl)(hk:k<=j:=by first|decide|omega)(ij:(f==("__debug__":Str))=false:=by decide)
  (mj:starEach (.Name x py::es) X.env=(false,eval (.Name x py) X.env)::starEach es X.env:=by rfl) (eG:(backTo aU (starEach es X.env)).any (·.1)=false:=by rfl) (jU:swapsWith (.Call (.Name f p) (.Name x py::es) [] aU) (some (.Name x px)) pos.line X.env=pure false:=by rfl)
  (hm:md.getD i 0=n:=by rfl) (hi:X.N[i]? =some x:=by rfl) (hx:Loc X.env.scope x:=by first|exact Or.inl rfl|exact Or.inr rfl) (hv:kT X.env.scope x:=by first|exact Or.inl rfl|exact Or.inr (Or.inl rfl) |exact Or.inr (Or.inr rfl)) (hd:(x==("__debug__":Str))=false:=by decide) (dG:(x==("__classdict__":Str))=false:=by decide)
  (hf:X.fn x=true\/X.env.scope.names.lookup x=some .local:=by first|exact .inl rfl|exact .inr rfl|assumption):
  DSt Z X md rn (.Assign [.Name x px] (.Call (.Name f p) (.Name x py::es) [] aU) pos) (OK md i sd t):=by
 refine(lB hN hi hx (qx F (hr.mono hk) hg d.m d.F.kp d.b .nil pC (cS (pv i hi hv hd dG) ha mj) ij mj eG) jU hf).imp ?_;intro D σ H aJ;rfl';obtain⟨B,ρ,E,⟨G,fp,S⟩,⟨d0,h1,h⟩,M⟩:=aJ;obtain⟨v0,ji,_⟩:=S.at_ i _ h1;ac_rfl;refine⟨_,ji,G,_,_,S.ex.sub,S.qf,h,λds hd us G1 H1 x1 dus=>?_⟩;have S1:=S.grow x1;obtain⟨v1,HP,o⟩:=S1.at_ i _ h1;rw[ji] at HP;cases HP;rw[hm] at o;refine⟨G1,v0,us,fp i,d0,ds,_,by rw[kP],x1.sub,o,S1.nd i,λb hb=>(S1.nw i b hb).2,dus,hd,λd' gP v' f' G2 H2 x2 o2 mN wQ=>?_⟩
 have off:∀b,B.H₀ b≠none->b∉fp i:=λb hb z=>hb (S1.nw i b z).1;have Cv:∀j b,j≠i->b∈fp j->o9 H1 (fp i) b=H1 b:=λj b ne hb=>kB (S1.ap j i b ne hb);refine M.nx _ gP _ _ ⟨G2,λj=>if j=i then f' else fp j,⟨S1.ex.gg.trans x2.gg,x2.sub,λb o' e=>x2.hh _ _ (by rw[kB (off b (by rw[e];exact λz=>nomatch z))];exact S1.ex.hh _ _ e),λb hb hg=>x2.off b (by rw[kB (off b hb)];exact eB S1.ex.hh hb) (S1.ex.off b hb hg)⟩,S1.fl.trans x2.gg,by rw[dB,dB];exact S1.len,λj c hj=>?_,λj=>?_,λj l b ne hj hl=>?_,λj b hb=>?_⟩
 ·by_cases z:j=i
  ·subst z
   have Us:j<ρ.length:=(dE.mp h1).1;rw[iH Us] at hj;cases hj;refine⟨v',by rw[iH (by rw[<-S1.len];exact Us)],?_⟩
   rw[hm,if_pos rfl];exact o2
  ·rw[jv (Ne.symm z)] at hj
   obtain⟨u,hu,ou⟩:=S1.at_ j c hj;refine⟨u,by rw[jv (Ne.symm z)];exact hu,?_⟩
   rw[if_neg z];refine ou.keep x2.gg λb hb=>?_;cases e:H1 b with
   |none=>exact absurd e (S1.nw j b hb).2.1
   |some o'=>exact x2.hh _ _ (by rw[Cv j b z hb];exact e)
 ·split
  ·exact mN
  ·exact S1.nd j
 ·have key:∀j b,j≠i->b∈fp j->b∉f':=λj b ne hb z=>by
   have:=(wQ b z).1
   rw[Cv j b ne hb] at this;exact(S1.nw j b hb).2.1 this
  split at hj
  ·next z=>
   rw[if_neg (λw=>ne (z.trans w.symm))] at hl;exact key l b (λw=>ne (z.trans w.symm)) hl hj
  ·next z=>
   split at hl
   ·exact key j b z hj hl
   ·exact S1.ap j l b ne hj hl
 ·split at hb
  ·obtain⟨q1,q2,q3⟩:=wQ b hb
   refine⟨?_,q2,q3⟩
   by_cases z:b∈fp i
   ·exact(S1.nw i b z).1
   ·rw[kB z] at q1
    exact S1.ex.hh.free q1
  ·next z=>
   obtain⟨q1,q2,q3⟩:=S1.nw j b hb;have e:=Cv j b z hb;exact⟨q1,eB x2.hh (by rw[e];exact q2),x2.off b (by rw[e];exact q2) q3⟩
theorem bT.append{R:V->D->List Addr->Prop}{vs Yw:List V}{ds fY:List D}{f f':List Addr}(o:bT R vs ds f)(o':bT R Yw fY f'):bT R (vs++Yw) (ds++fY) (f++f'):=by
 induction o with
 |nil=>exact o'
 |cons h _ ih=>rw[td];exact .cons h ih
def EY(md:List Nat)(i:Nat)(t:gH):cN:=λE ρ=>∃l1,ρ[i]? =some (some (.lst l1))/\t (cJ md ρ) λl2=>l1.length+l2.length<=sizeLine/\E.rt (.lst (l1++l2))
theorem su(i:Nat){x:Str}{px RO:Pos}(he:DF Z X 2 e tf)(hm:md.getD i 0=2:=by rfl)(hi:X.N[i]? =some x:=by rfl)(hv:kT X.env.scope x:=by first|exact Or.inl rfl|exact Or.inr (Or.inl rfl) |exact Or.inr (Or.inr rfl))(hd:(x==("__debug__":Str))=false:=by decide)(dG:(x==("__classdict__":Str))=false:=by decide):
  DSt Z X md 2 (.Return (some (.BinOp (.Name x px) .Add e RO)) pos) (EY md i tf):=by
 refine(qC (CZ zy (pv i hi hv hd dG) he)).imp ?_;intro D σ H aJ;rfl';obtain⟨B,ρ,E,⟨G,fp,S⟩,⟨l1,h1,h⟩,M⟩:=aJ;obtain⟨v0,ji,o⟩:=S.at_ i _ h1;rw[hm] at o;obtain⟨a,xs,ds,dP,rfl,ed,ha,hf,ol⟩:=o.lst;cases ed;ac_rfl;refine⟨_,ji,G,_,_,S.ex.sub,S.qf,h,λl2 hl v2 f2 G1 H1 x1 o2 mN wQ=>?_⟩;rfl';obtain⟨b,zs,OY,Ny,rfl,ed2,hb,wK,WS⟩:=o2.lst;cases ed2;obtain⟨hz,hrt⟩:=hl;ac_rfl;subst wK;have A3:=S.nd i;rw[hf] at A3;have K4:∀c∈dP,c∈fp i:=λc hc=>by rw[hf];exact bP _ hc
 refine⟨a,b,xs,zs,rfl,rfl,x1.hh _ _ ha,hb,by rw[ol.length,WS.length];exact hz,λp hp=>?_⟩
 have n1:∀c∈dP,c≠p:=λc hc z=>eB x1.hh (S.nw i c (K4 c hc)).2.1 (by rw[z];exact hp)
 have n2:∀c∈Ny,c≠p:=λc hc z=>(wQ c (bP _ hc)).2.1 (by rw[z];exact hp)
 refine M.rt _ hrt (.ref p) (p::(dP++Ny)) G1 _ ((S.ex.trans x1).side hp) (.inl ⟨p,xs++zs,_,_,rfl,rfl,av,rfl,?_⟩) ?_ ?_
 ·refine bT.append (ol.imp λv d f hf od=>od.keep x1.gg λc hc=>?_) (WS.imp λv d f hf od=>od.keep (.refl _) λc hc=>aw (n2 c (hf c hc)))
  rw[aw (n1 c (hf c hc))];cases z:H c with
  |none=>exact absurd z (S.nw i c (K4 c (hf c hc))).2.1
  |some o=>exact x1.hh _ _ z
 ·rw[eE,gF]
  refine⟨λz=>?_,(eE.mp A3).2,(eE.mp mN).2,λc hc c' n9 z=>?_⟩
  ·rcases fK.mp z with z|z
   ·exact n1 p z rfl
   ·exact n2 p z rfl
  ·subst z
   exact(S.nw i c (K4 c hc)).2.1 (wQ c (bP _ n9)).1
 ·intro c hc
  rcases cm.mp hc with rfl|hc
  ·exact⟨S.ex.hh.free (x1.hh.free hp),(by rw[av];exact λz=>nomatch z),x1.sub.free hp⟩
  ·rcases fK.mp hc with hc|hc
   ·obtain⟨q1,q2,q3⟩:=S.nw i c (K4 c hc)
    exact⟨q1,(by rw[aw (n1 c hc)];exact eB x1.hh q2),x1.off c q2 q3⟩
   ·obtain⟨q1,q2,q3⟩:=wQ c (bP _ hc)
    exact⟨S.ex.hh.free q1,(by rw[aw (n2 c hc)];exact q2),q3⟩
end
end L2
namespace uf
open PySem L2 Wb
variable {P:Program} {w:World} {mg:Str->Option Value} {base:Heap} {Z:DC} (T:Txt Z mg)
open Wy
def Dh:b9:=λds P=>∃(r:List Nat)(x:Nat),ds= [ar r,af x]/\x∈r/\r.length<=20/\P (af (au r x))
theorem iq:FnOk P w Z.K mg base bQ 1 T.d__law_behind.f T.d__law_behind.fd ["_law_row","_law_thing"] (aM Z Dh):=by
 have nd:=lP.nd;refine aP T.d__law_behind.F lP [0,0] (by decide) (λds R h=>by obtain⟨_,_,rfl,_⟩:=h;rfl) (λbh A outer s H E ds R hr h=>?_)
 have hu:=hr.units;refine⟨_,(ao (aL (aO (aa 0) (ax cV (ax aN (ke (aa 0) (aa 1)) ai) (aD aZ rfl T.B.len aY (ab (aa 0) ae)))))),?_⟩;obtain⟨r,x,rfl,hx,hl,q⟩:=h;have lr:(r.map af).length=r.length:=aG _;have pos:0<r.length:=yD hx;have e0:(0:Int)<((r.map af).length:Int):=by rw[lr];omega
 refine⟨_,rfl,_,rfl,_,rfl,_,rfl,rfl,bz _,_,_,(bB hx).1,(bB hx).2.1,(bB hx).2.2,?_⟩;refine⟨_,rfl,e0,?_⟩;have em:((r.idxOf x:Nat):Int)+1=((r.idxOf x+1:Nat):Int):=by omega
 have et:(((r.idxOf x:Nat):Int)+1)%((r.map af).length:Int)=(((r.idxOf x+1)%r.length:Nat):Int):=by rw[lr,em,Int.natCast_emod]
 refine⟨af (au r x),?_,q⟩;show fO (r.map af) ((λi j=>i%j) _ _)=_;dsimp only;rw[et];exact g8 (tm _ pos)
def Jv:b9:=λds P=>∃(r:List Nat)(x:Nat)(ys:List Nat),ds= [ar r,af x,ar ys]/\x∈r/\r.length<=20/\ys.length<=5/\P (ar (BU r x ys))
theorem e7:FnOk P w Z.K mg base bQ 1 T.d__law_after.f T.d__law_after.fd ["_law_row","_law_thing","_law_things"] (gB Z 1 Jv):=by
 have nd:=mY.nd;refine kn 1 T.d__law_after.F mY [0,0,0,0] (by decide) (λds R h=>by obtain⟨_,_,_,rfl,_⟩:=h;rfl) (λbh A outer s H E ds R hr h=>?_)
 have hu:=hr.units
 refine⟨_,(ah (aH false 3 nd (ax aN (ke (aa 0) (aa 1)) ai))
   (ao (An (nS (ax aN (cO (aa 0) dU (dW (aa 3))) (aa 2)) (cO (aa 0) (dW (aa 3)) dU))))),?_⟩
 obtain⟨r,x,ys,rfl,hx,hl,hy,q⟩:=h;have lr:(r.map af).length=r.length:=aG _;have hi:=wc.mpr hx;refine⟨_,rfl,_,rfl,_,rfl,rfl,bz _,_,_,(bB hx).1,(bB hx).2.1,(bB hx).2.2,trivial,?_⟩;refine zo [some (ar r),some (af x),some (ar ys),some (.int ((r.idxOf x+1:Nat):Int))] rfl ?_;have c1:cutD (r.map af) none (some ((r.idxOf x+1:Nat):Int))=(r.take (r.idxOf x+1)).map af:=by rw[gN _ _ (by rw[lr];omega),tj]
 have c2:cutD (r.map af) (some ((r.idxOf x+1:Nat):Int)) none=(r.drop (r.idxOf x+1)).map af:=by rw[fW _ _ (by rw[lr];omega),qY]
 have l1:(cutD (r.map af) none (some ((r.idxOf x+1:Nat):Int))).length<=20:=by rw[c1,aG,eD];omega
 have l2:(cutD (r.map af) (some ((r.idxOf x+1:Nat):Int)) none).length<=20:=by rw[c2,aG,kN];omega
 have ly:(ys.map af).length=ys.length:=aG _;refine⟨_,rfl,_,rfl,_,rfl,small (by omega),_,rfl,_,rfl,_,rfl,_,rfl,small (by rw[cx];omega),?_⟩
 rw[c1,c2]
 have:=q
 unfold BU ar at this;rw[dO,dO] at this;exact this
def Jz:b9:=λds P=>∃(w:W)(a b:Nat),ds= [ay w,af a,af b]/\Gw w a b/\P (ay (nV w a b))
def JG:b9:=λds P=>∃(w:W)(a b:Nat),ds= [ay w,af a,af b]/\Gv w a b/\P (ay (lE w a b))
theorem ml:FnOk P w Z.K mg base bQ 2 T.d__law_eight_faced.f T.d__law_eight_faced.fd ["_law_turns","_law_a","_law_b"] (qr Z 2 Jz):=by
 have nd:=g9.nd;refine xD 2 T.d__law_eight_faced.F g9 [2,0,0,0,0] (by intro i h1 h2;match i,h1,h2 with|1,_,_=>rfl|2,_,_=>rfl|i+3,_,h=>exact absurd h (by simp)) rfl (λds R h=>by obtain⟨_,_,_,rfl,_⟩:=h;rfl) (λbh A outer s H E ds R hr h=>?_)
 have hu:=hr.units
 refine⟨_,(ah (aH true 3 nd (aE T.d__law_behind (iq T) hr (ab (aO (aa 0) (aa 2)) (ab (aa 1) ae))))
   (ah (aH true 4 nd (aD aZ rfl T.B.len aY (ab (aa 0) ae)))
   (ah (g6 0 (aa 1) (kg T.d__law_after (e7 T) hr (ab (aO (aa 0) (aa 1)) (ab (aa 3) (ab (bG (ab (ax aN (aa 4) ai) (ab (aa 4) ae))) ae)))))
   (ah (g6 0 (aa 2) (kg T.d__law_after (e7 T) hr (ab (aO (aa 0) (aa 2)) (ab (aa 1) (ab (bG (ab (aa 4) (ab (ax aN (aa 4) ai) ae))) ae)))))
   (ah (g6 0 (aa 3) (kg T.d__law_after (e7 T) hr (ab (aO (aa 0) (aa 3)) (ab (aa 2) (ab (bG (ab (ax aN (aa 4) ai) (ab (ax aN (aa 4) ai) ae))) ae)))))
   (ao (su 0 (uG (gf (fh (ab (aa 2) (ab (aa 1) (ab (ax aN (aa 4) ai) (ab (ax aN (aa 4) ai) ae))))) (gf (fh (ab (aa 3) (ab (aa 2) (ab (aa 4) (ab (ax aN (aa 4) ai) ae))))) (gf (fh (ab (aa 1) (ab (aa 3) (ab (ax aN (aa 4) ai) (ab (aa 4) ae))))) uH))))))))))),?_⟩
 obtain⟨w',a,b,rfl,⟨⟨ha,hb,hc,Pd⟩,⟨m1,m2,m3,m4⟩,l1,l2,l3,l4⟩,q⟩:=h;have lw:(w'.map ar).length=w'.length:=aG _;refine⟨_,rfl,_,rfl,_,bW hb,_,rfl,row w' b,a,rfl,m1,l1,rfl,?_⟩;refine⟨_,rfl,?_⟩;dsimp only[cZ,eY,ay];refine⟨rfl,?_⟩;refine fe [some (ay w'),some (af a),some (af b),some (af (dh w' a b)),some (af w'.length)] (by rw[lw];rfl) ?_
 refine⟨_,rfl,_,rfl,_,bW ha,_,rfl,_,rfl,_,rfl,by show 2<=sizeLine;decide,?_⟩
 refine⟨row w' a,dh w' a b,[w'.length+2,w'.length],rfl,m2,l2,BK rfl,_,rfl,?_⟩;refine⟨bz _,_,rfl,_,rfl,_,a,rfl,bL (by rw[lw];exact ha),?_⟩
 have g1:(yV w' a b).length=w'.length:=by unfold yV;rw[dB]
 have g2:(yW w' a b).length=w'.length:=by unfold yW;rw[dB,g1]
 have g3:(Hh w' a b).length=w'.length:=by unfold Hh;rw[dB,g2]
 refine fe [some (ay (yV w' a b)),some (af a),some (af b),some (af (dh w' a b)),some (af w'.length)] (by unfold yV ay;rw[<-dj];rfl) ?_
 refine⟨_,rfl,_,rfl,_,bW (by rw[g1];exact hb),_,rfl,_,rfl,_,rfl,by show 2<=sizeLine;decide,?_⟩
 refine⟨row (yV w' a b) b,a,[w'.length,w'.length+1],rfl,m3,l3,BK rfl,_,rfl,?_⟩;refine⟨bz _,_,rfl,_,rfl,_,b,rfl,bL (by rw[aG,g1];exact hb),?_⟩
 refine fe [some (ay (yW w' a b)),some (af a),some (af b),some (af (dh w' a b)),some (af w'.length)] (by unfold yW ay;rw[<-dj];rfl) ?_
 refine⟨_,rfl,_,rfl,_,bW (by rw[g2];exact hc),_,rfl,_,rfl,_,rfl,by show 2<=sizeLine;decide,?_⟩
 refine⟨row (yW w' a b) (dh w' a b),b,[w'.length+1,w'.length+2],rfl,m4,l4,BK rfl,_,rfl,?_⟩;refine⟨bz _,_,rfl,_,rfl,_,dh w' a b,rfl,bL (by rw[aG,g2];exact hc),?_⟩
 refine zo [some (ay (Hh w' a b)),some (af a),some (af b),some (af (dh w' a b)),some (af w'.length)] (by unfold Hh ay;rw[<-dj];rfl) ?_
 refine⟨_,rfl,_,rfl,_,rfl,_,rfl,_,rfl,by show 4<=sizeLine;decide,_,rfl,_,rfl,_,rfl,_,rfl,by show 4<=sizeLine;decide,_,rfl,_,rfl,_,rfl,_,rfl,by show 4<=sizeLine;decide,by show 3<=sizeLine;decide,small (by rw[aG,g3];show _+3<=1000;omega),?_⟩
 have:=q
 unfold nV ay at this;rw[dO] at this;exact this
theorem tL:FnOk P w Z.K mg base bQ 2 T.d__law_split.f T.d__law_split.fd ["_law_turns","_law_a","_law_b"] (qr Z 2 JG):=by
 have nd:=m9.nd;refine xD 2 T.d__law_split.F m9 [2,0,0,0,0,0] (by intro i h1 h2;match i,h1,h2 with|1,_,_=>rfl|2,_,_=>rfl|i+3,_,h=>exact absurd h (by simp)) rfl (λds R h=>by obtain⟨_,_,_,rfl,_⟩:=h;rfl) (λbh A outer s H E ds R hr h=>?_)
 have hu:=hr.units
 refine⟨_,(ah (aH true 3 nd (aE T.d__law_behind (iq T) hr (ab (aO (aa 0) (aa 2)) (ab (aa 1) ae))))
   (ah (aH true 4 nd (aE T.d__law_behind (iq T) hr (ab (aO (aa 0) (aa 1)) (ab (aa 2) ae))))
   (ah (aH true 5 nd (aD aZ rfl T.B.len aY (ab (aa 0) ae)))
   (ah (g6 0 (aa 3) (kg T.d__law_after (e7 T) hr (ab (aO (aa 0) (aa 3)) (ab (aa 2) (ab (bG (ab (ax aN (aa 5) ai) (ab (aa 5) ae))) ae)))))
   (ah (g6 0 (aa 4) (kg T.d__law_after (e7 T) hr (ab (aO (aa 0) (aa 4)) (ab (aa 1) (ab (bG (ab (aa 5) (ab (ax aN (aa 5) ai) ae))) ae)))))
   (ah (xn false 0 (aa 1) (ke (aO (aa 0) (aa 1)) (aa 2)) (aa 5))
   (ah (xn false 0 (aa 2) (ke (aO (aa 0) (aa 2)) (aa 1)) (ax aN (aa 5) ai))
   (ao (su 0 (uG (gf (fh (ab (aa 4) (ab (aa 1) (ab (aa 3) (ab (ax aN (aa 5) ai) ae))))) (gf (fh (ab (aa 3) (ab (aa 2) (ab (aa 4) (ab (aa 5) ae))))) uH)))))))))))),?_⟩
 obtain⟨w',a,b,rfl,⟨⟨ha,hb,hx,hy,Pd⟩,⟨m1,m2,m3,m4,m5,m6⟩,l1,l2,l3,l4,l5,l6⟩,q⟩:=h;have lw:(w'.map ar).length=w'.length:=aG _;refine⟨_,rfl,_,rfl,_,bW hb,_,rfl,row w' b,a,rfl,m1,l1,rfl,?_⟩;refine⟨_,rfl,_,rfl,_,bW ha,_,rfl,row w' a,b,rfl,m2,l2,rfl,?_⟩;refine⟨_,rfl,?_⟩;dsimp only[cZ,eY,ay];refine⟨rfl,?_⟩;have g1:(wY w' a b).length=w'.length:=by unfold wY;rw[dB]
 have g2:(tS w' a b).length=w'.length:=by unfold tS;rw[dB,g1]
 have g3:(tT w' a b).length=w'.length:=by unfold tT;rw[dB,g2]
 have g4:(F3 w' a b).length=w'.length:=by unfold F3;rw[dB,g3]
 refine fe [some (ay w'),some (af a),some (af b),some (af (dh w' a b)),some (af (dh w' b a)),some (af w'.length)] (by rw[lw];rfl) ?_
 refine⟨_,rfl,_,rfl,_,bW hx,_,rfl,_,rfl,_,rfl,by show 2<=sizeLine;decide,?_⟩
 refine⟨row w' (dh w' a b),b,[w'.length+1,w'.length],rfl,m3,l3,BK rfl,_,rfl,?_⟩;refine⟨bz _,_,rfl,_,rfl,_,dh w' a b,rfl,bL (by rw[lw];exact hx),?_⟩
 refine fe [some (ay (wY w' a b)),some (af a),some (af b),some (af (dh w' a b)),some (af (dh w' b a)),some (af w'.length)] (by unfold wY ay;rw[<-dj];rfl) ?_
 refine⟨_,rfl,_,rfl,_,bW (by rw[g1];exact hy),_,rfl,_,rfl,_,rfl,by show 2<=sizeLine;decide,?_⟩
 refine⟨row (wY w' a b) (dh w' b a),a,[w'.length,w'.length+1],rfl,m4,l4,BK rfl,_,rfl,?_⟩;refine⟨bz _,_,rfl,_,rfl,_,dh w' b a,rfl,bL (by rw[aG,g1];exact hy),?_⟩
 refine fe [some (ay (tS w' a b)),some (af a),some (af b),some (af (dh w' a b)),some (af (dh w' b a)),some (af w'.length)] (by unfold tS ay;rw[<-dj];rfl) ?_
 have r2:((tS w' a b).map ar)[a]? =some (.lst ((row (tS w' a b) a).map af)):=nG (by rw[g2];exact ha)
 refine⟨_,rfl,trivial,_,rfl,_,rfl,_,a,_,rfl,bL (by rw[aG,g2];exact ha),r2,?_⟩
 refine⟨_,rfl,_,rfl,_,bW (by rw[g2];exact ha),_,rfl,_,rfl,rfl,bz _,_,_,(bB m5).1,(bB m5).2.1,(bB m5).2.2,?_⟩
 refine⟨_,_,rfl,bL (by rw[aG];exact wc.mpr m5),?_⟩
 refine fe [some (ay (tT w' a b)),some (af a),some (af b),some (af (dh w' a b)),some (af (dh w' b a)),some (af w'.length)] (by unfold tT ay;rw[<-dj];unfold ar;rw[wx];rfl) ?_
 have r3:((tT w' a b).map ar)[b]? =some (.lst ((row (tT w' a b) b).map af)):=nG (by rw[g3];exact hb)
 refine⟨_,rfl,trivial,_,rfl,_,rfl,_,b,_,rfl,bL (by rw[aG,g3];exact hb),r3,?_⟩
 refine⟨_,rfl,_,rfl,_,bW (by rw[g3];exact hb),_,rfl,_,rfl,rfl,bz _,_,_,(bB m6).1,(bB m6).2.1,(bB m6).2.2,?_⟩
 refine⟨_,_,rfl,bL (by rw[aG];exact wc.mpr m6),?_⟩
 refine zo [some (ay (F3 w' a b)),some (af a),some (af b),some (af (dh w' a b)),some (af (dh w' b a)),some (af w'.length)] (by unfold F3 ay;rw[<-dj];unfold ar;rw[wx];rfl) ?_
 refine⟨_,rfl,_,rfl,_,rfl,_,rfl,_,rfl,by show 4<=sizeLine;decide,_,rfl,_,rfl,_,rfl,_,rfl,by show 4<=sizeLine;decide,by show 2<=sizeLine;decide,small (by rw[aG,g4];show _+2<=1000;omega),?_⟩
 have:=q
 unfold lE ay at this;rw[dO] at this;exact this
variable {P:Program} {w:World} {mg:Str->Option Value} {base:Heap} {Z:DC} (T:Txt Z mg)
def Q1(w:W)(fu:Int)(m:Nat):Prop:=(w=iG/\m=2)\/((∃c,(w,c)∈E8)/\m=1/\(fu=0\/fu=2\/fu=3))\/((∃c,(w,c)∈O4)/\w.length=8/\m=0/\(fu=0\/fu=2\/fu=3))
theorem Zo(x:Int):∃v:Int,fO [D.int 0,D.int 2,D.int 2,D.int 3,D.int 3] (x%5)=some (.int v)/\(v=0\/v=2\/v=3):=by
 have m:=jX x 5 (by decide)
 have:x%5=0\/x%5=1\/x%5=2\/x%5=3\/x%5=4:=by omega
 rcases this with h|h|h|h|h<;>rw[h]
 ·exact⟨0,rfl, .inl rfl⟩
 ·exact⟨2,rfl, .inr (.inl rfl)⟩
 ·exact⟨2,rfl, .inr (.inl rfl)⟩
 ·exact⟨3,rfl, .inr (.inr rfl)⟩
 ·exact⟨3,rfl, .inr (.inr rfl)⟩
theorem Hj{w:W}{fu:Int}{m:Nat}(h:Q1 w fu m):i9 w/\w.length<=8:=by
 have all:=kO.mp KI;have p2:=kO.mp yc
 rcases h with ⟨rfl,_⟩ | ⟨⟨c,h⟩,_⟩ | ⟨⟨c,h⟩,hl,_⟩
 ·exact⟨uS (all (iG,[0,1,2]) (b6 ..)),by decide⟩
 ·have:=p2 (w,c) h
  rw[ma] at this;exact⟨uS (all (w,c) (bP _ (kM _ h))),by have h6:w.length=6:=of_decide_eq_true this.1;omega⟩
 ·exact⟨uS (all (w,c) (bP _ (fN _ h))),by omega⟩
def Md:b9:=λds P=>∃(n:Int),ds= [.int n, .int 8]/\∀w,i9 w->w.length<=8->P (ay w)
theorem wU:FnOk P w Z.K mg base bQ 3 T.d__law_even.f T.d__law_even.fd ["_law_number","_law_most"] (aM Z Md):=by
 have nd:=oG.nd;refine aP T.d__law_even.F oG [0,0,2,0,0,0] (by decide) (λds R h=>by obtain⟨_,rfl,_⟩:=h;rfl) (λbh A outer s H E ds R hr h=>?_)
 have hu:=hr.units
 refine⟨_,(ah (kX 2 nd (uG (gf (fh (ab ai (ab ai ae))) (gf (fh (ab ai (ab ai ae))) (gf (fh (ab ai (ab ai ae))) uH)))))
   (ah (aH false 3 nd (ax aN ai (ax cV (aa 0) ai)))
   (ah (aH false 0 nd (ax fS (aa 0) ai))
   (ah (nU PassesOwn.never (DW.dt (t6 (aS vw (ax aN (aD aZ rfl T.B.len aY (ab (aa 2) ae)) (aa 3)) (aa 1) (bf _)) (qa (aS vq (aa 3) ai (bf _))))) (ah (aH true 4 nd (ax cV (aa 0) (aD aZ rfl T.B.len aY (ab (aa 2) ae))))
   (ah (aH true 0 nd (ax fS (aa 0) (aD aZ rfl T.B.len aY (ab (aa 2) ae))))
   (ah (aH true 5 nd (aO (aO (aa 2) (aa 4)) (ax cV (aa 0) (aD aZ rfl T.B.len aY (ab (aO (aa 2) (aa 4)) ae)))))
   (ah (aH true 0 nd (ax fS (aa 0) (aD aZ rfl T.B.len aY (ab (aO (aa 2) (aa 4)) ae))))
   (ah (bM (DW.dt (t6 (aS (il hu) (aa 3) ai (bf _)) (qa (aS vq (aD aZ rfl T.B.len aY (ab (aa 2) ae)) ai (bf _))))) (ao (Am 2 2 nd T.d__law_split (tL T) hr (ab (aa 4) (ab (aa 5) ae)))) (ao (bM (aS vw (ax aN (aD aZ rfl T.B.len aY (ab (aa 2) ae)) ai) (aa 1) (bf _)) (ao (Am 2 2 nd T.d__law_eight_faced (ml T) hr (ab (aa 4) (ab (aa 5) ae)))) aX)))
   (ah (aH false 3 nd (aO (bG (ab ai (ab ai (ab ai (ab ai (ab ai ae)))))) (ax cV (aa 0) ai)))
   (ao (aH false 0 nd (ax fS (aa 0) ai))))))))))
   (ao (aL (aa 2))))))),?_⟩
 obtain⟨n,rfl,q⟩:=h;refine⟨by show 2<=sizeLine;decide,by show 2<=sizeLine;decide,by show 2<=sizeLine;decide,by show 3<=sizeLine;decide,?_⟩
 refine⟨_,rfl,(by show(0:Int)<6;decide),trivial,?_⟩
 refine⟨_,rfl,⟨by decide,by decide⟩,trivial,?_⟩
 refine lK (λm ρ=>∃(x fu:Int)(w:W)(o4 o5:Option D),ρ= [some (.int x),some (.int 8),some (ay w),some (.int fu),o4,o5]/\Q1 w fu m) 2 ⟨_,_,iG,none,none,rfl, .inl ⟨rfl,rfl⟩⟩ ?_;rintro m _ ⟨x,fu,w',o4,o5,rfl,St⟩;obtain⟨F,h8⟩:=Hj St;have g:=F.g;have n3:=F.n3;have lw:(w'.map ar).length=w'.length:=aG _;have e0:(0:Int)<((w'.map ar).length:Int):=by rw[lw];omega
 refine⟨_,rfl,?_⟩;dsimp only[cZ,eY,ay];refine⟨_,rfl,_,rfl,_,rfl,cH (λe1=>⟨_,rfl,_,rfl,cH (λe2=>?_) (λe2=>⟨_,rfl,q w' F h8⟩)⟩) (λe1=>cv ⟨_,rfl,q w' F h8⟩)⟩;have e1:=of_decide_eq_true e1;have e2:=of_decide_eq_true e2;refine⟨_,rfl,_,rfl,?_⟩;dsimp only[cZ,eY,ay];refine⟨e0,rfl,?_⟩;have m1:=jX x ((w'.map ar).length:Int) e0;generalize KP:x%((w'.map ar).length:Int)=at_ at m1;obtain⟨a,rfl⟩:∃a:Nat,at_=(a:Int):=⟨at_.toNat,by omega⟩
 rw[lw] at m1;have ha:a<w'.length:=by omega
 refine fe [some (.int x),some (.int 8),some (ay w'),some (.int fu),some (af a),o5] (by unfold af;rw[<-KP];rfl) ?_
 refine⟨_,rfl,_,rfl,?_⟩;dsimp only[cZ,eY,ay];refine⟨⟨e0,by rw[lw];omega⟩,rfl,?_⟩
 generalize hx1:x / ((w'.map ar).length:Int)=x1;refine fe [some (.int x1),some (.int 8),some (ay w'),some (.int fu),some (af a),o5] (by rw[<-hx1];rfl) ?_
 have rne:0<(row w' a).length:=zP.mpr (g.zE (by omega) ha)
 have rl:=dZ g a;have lr:((row w' a).map af).length=(row w' a).length:=aG _;have e3:(0:Int)<(((row w' a).map af).length:Int):=by rw[lr];omega
 refine⟨_,rfl,_,rfl,_,bW ha,_,rfl,_,rfl,_,rfl,_,bW ha,?_⟩;dsimp only[cZ,eY,ar];refine⟨e3,?_⟩;have m2:=jX x1 (((row w' a).map af).length:Int) e3;generalize hkt:x1%(((row w' a).map af).length:Int)=kt at m2;obtain⟨k,rfl⟩:∃k:Nat,kt=(k:Int):=⟨kt.toNat,by omega⟩
 rw[lr] at m2;have hk:k<(row w' a).length:=by omega
 generalize Pn:(row w' a).getD k 0=b;have hb:fO ((row w' a).map af) (x1%(((row w' a).map af).length:Int))=some (af b):=by rw[hkt,<-Pn];exact g8 hk
 have hd:(a,b)∈ba w':=b7.mpr (by show b∈row w' a;rw[<-Pn];exact br hk)
 refine⟨af b,hb,rfl,?_⟩;refine fe [some (.int x1),some (.int 8),some (ay w'),some (.int fu),some (af a),some (af b)] rfl ?_;refine⟨_,rfl,_,rfl,_,rfl,_,bW ha,?_⟩;dsimp only[cZ,eY,ar];refine⟨⟨e3,by rw[lr];omega⟩,rfl,?_⟩
 generalize PV:x1 / (((row w' a).map af).length:Int)=x2;refine fe [some (.int x2),some (.int 8),some (ay w'),some (.int fu),some (af a),some (af b)] (by rw[<-PV];rfl) ?_
 have fin:∀(E':gu)(w2:W),(∀(x3 v:Int),(v=0\/v=2\/v=3)->E'.nx [some (.int x3),some (.int 8),some (ay w2),some (.int v),some (af a),some (af b)])->mF (Ah [0,0,2,0,0,0] false 3 (Ag OL (Ng (jc (dC (D.int 0)) (jc (dC (D.int 2)) (jc (dC (D.int 2)) (jc (dC (D.int 3)) (jc (dC (D.int 3)) cZ)))))) (Ag Nh (Ai 0) (dC (D.int 5))))) (Ah [0,0,2,0,0,0] false 0 (Ag Nb (Ai 0) (dC (D.int 5)))) E' [some (.int x2),some (.int 8),some (ay w2),some (.int fu),some (af a),some (af b)]:=λE' w2 hE=>by
  obtain⟨v,hv,hc⟩:=Zo x2;refine⟨by show 5<=sizeLine;decide,_,rfl,(by show(0:Int)<5;decide),_,hv,trivial,?_⟩
  exact⟨_,rfl,⟨by decide,by decide⟩,trivial,hE _ v hc⟩
 have lw3:((w'.map ar).length:Int)=(w'.length:Int):=by rw[lw]
 rcases St with ⟨rfl,rfl⟩ | ⟨⟨c,hc⟩,rfl,hfu⟩ | ⟨_,hl,_,_⟩
 ·have pre:Gw iG a b:=of_decide_eq_true (kO.mp FP (a,b) hd)
  have mem:=Ie hd;refine⟨_,rfl,?_⟩;refine wG ⟨_,rfl,cH (λe=>⟨_,rfl,?_⟩) (λe=>cv ?_)⟩
  ·dsimp only[cZ,eY,ay]
   refine⟨_,rfl,AM rfl ?_⟩;refine⟨_,rfl,?_⟩;dsimp only[cZ,eY,ay];refine⟨_,rfl,_,rfl,?_⟩;rw[if_pos (by decide)]
   refine⟨_,rfl,_,rfl,_,rfl,iG,a,b,rfl,pre,?_⟩;exact fin _ (nV iG a b) λx3 v hv=>⟨1,by decide,x3,v,_,_,_,rfl, .inr (.inl ⟨mem,rfl,hv⟩)⟩
  ·refine⟨_,rfl,?_⟩
   dsimp only[cZ,eY,ay];refine⟨_,rfl,_,rfl,?_⟩;rw[if_pos (by decide)]
   refine⟨_,rfl,_,rfl,_,rfl,iG,a,b,rfl,pre,?_⟩;exact fin _ (nV iG a b) λx3 v hv=>⟨1,by decide,x3,v,_,_,_,rfl, .inr (.inl ⟨mem,rfl,hv⟩)⟩
 ·have p2:=kO.mp yc (w',c) hc
  rw[ma] at p2;have l6:w'.length=6:=of_decide_eq_true p2.1;have pre:Gv w' a b:=of_decide_eq_true (kO.mp p2.2 (a,b) hd);have mem:=Ig hc hd;have f2:fu=2:=by omega
  subst f2
  have l8:(lE w' a b).length=8:=by
   unfold lE F3 tT tS wY;simp[l6]
  refine⟨_,rfl,?_⟩;refine wG ⟨_,rfl,dr ⟨_,rfl,?_⟩⟩;dsimp only[cZ,eY,ay];refine⟨_,rfl,?_⟩;dsimp only;refine(if_pos (show decide ((3:Int)<((w'.map ar).length:Int))=true from decide_eq_true (by rw[lw,l6];decide))).mpr ⟨_,rfl,_,rfl,_,rfl,w',a,b,rfl,pre,?_⟩
  exact fin _ (lE w' a b) λx3 v hv=>⟨0,by decide,x3,v,_,_,_,rfl, .inr (.inr ⟨mem,l8,rfl,hv⟩)⟩
 ·omega
variable {P:Program} {w:World} {mg:Str->Option Value} {base:Heap} {Z:DC} (T:Txt Z mg)
def F8:b9:=λds P=>∃(ns:List Int),ds= [.mm ns]/\∀w,i9 w->w.length<=8->P (ay w)
theorem tN:FnOk P w Z.K mg base bQ 4 T.d__law_filled.f T.d__law_filled.fd ["_law_script"] (aM Z F8):=by
 have nd:=lS.nd;refine aP T.d__law_filled.F lS [0,0,0,0] (by decide) (λds R h=>by obtain⟨_,rfl,_⟩:=h;rfl) (λbh A outer s H E ds R hr h=>?_)
 have hu:=hr.units
 refine⟨_,(ah (aH false 1 nd (aE T.d__law_drawn (mQ T) hr (ab (aE T.d__law_cell_at (gS T) hr (ab (aa 0) (ab ai ae))) ae)))
   (ah (bM (aS (il hu) (ax cV (aE T.d__law_cell_at (gS T) hr (ab (aa 0) (ab ai ae))) ai) ai (bf _)) (ao (aH false 2 nd (aE T.d__law_even (wU T) hr (ab (aa 1) (ab ai ae))))) (ah (yU (aE T.d__law_grown (vx T) hr (ab (ax aN (ax jI (ax fS (aa 1) ai) ai) (ax cV (aa 1) ai)) (ab ai ae))) (cU 2 rfl (aF (aB 2 nd) (aF (aB 3 nd) bK))))
   (ao (aH false 2 nd (aE T.d__law_closed (tM T) hr (ab (aa 2) (ab (aa 3) ae)))))))
   (ao (aL (aE T.d__law_named (vy T) hr (ab (aa 2) (ab (aE T.d__law_drawn (mQ T) hr (ab (aE T.d__law_cell_at (gS T) hr (ab (aa 0) (ab ai ae))) ae)) ae))))))),?_⟩
 obtain⟨ns,rfl,q⟩:=h;refine⟨_,rfl,ns,0,rfl,λc0=>⟨c0,rfl,λn=>⟨trivial,?_⟩⟩⟩
 have fin:∀(E':gu)(w:W)(o3:Option D),E'.rt=R->i9 w->w.length<=8->Nk (mE Bu (jc (Ai 2) (jc (mE Bq (jc (mE yt (jc (Ai 0) (jc (dC (D.int 1)) cZ))) cZ)) cZ))) E' [some (.mm ns),some (.int n),some (ay w),o3]:=λE' w o3 e F h8=>by
  refine⟨_,rfl,_,rfl,ns,1,rfl,λc1=>⟨c1,rfl,λn1=>⟨w,n1,rfl,F,h8,λv Fv lv=>?_⟩⟩⟩;rw[e];exact q v Fv (by omega)
 refine⟨_,rfl,ns,2,rfl,λc2=>⟨(by show(0:Int)<2;decide),?_⟩⟩
 refine wG ⟨_,rfl,cH (λ_=>?_) (λ_=>?_)⟩
 ·refine⟨_,rfl,n,rfl,λw F h8=>⟨trivial,fin _ w none rfl F h8⟩⟩
 ·refine⟨_,rfl,⟨by decide,by decide⟩, .inr ⟨by decide,by decide⟩,_,rfl,(by show(0:Int)<5;decide),n / 6,n%5,rfl,by omega,by omega,λw R' gd h7=>?_⟩
  refine⟨rfl,rfl,?_⟩;exact⟨_,rfl,_,rfl,w,R',rfl,gd,h7,λv Fv hv=>⟨trivial,fin _ v _ rfl Fv hv⟩⟩
def Mh:b9:=λds P=>∃(w:W),ds= [ay w]/\Good w/\1<=w.length/\w.length<=14/\P (.dA w)
theorem zv:FnOk P w Z.K mg base bQ 6 T.d__law_web.f T.d__law_web.fd ["_law_turns"] (aM Z Mh):=by
 have nd:=qK.nd;refine aP T.d__law_web.F qK [0] (by decide) (λds R h=>by obtain⟨_,rfl,_⟩:=h;rfl) (λbh A outer s H E ds R hr h=>?_)
 have hu:=hr.units;refine⟨_,(ao (aL (GZ T.mkW (rT T) (hr.mono (by decide)) rfl T.mC T.m___init__b (ab (oS (NC:= ["_law_row"]) (src:= [none]) rfl (mh (aq jK)) trivial (bF (aa 0)) (λ_ _ _=>(bE 0 (show(["_law_row"]:List Str).Nodup from by decide+kernel))) (λ_ _ _=>cE) (λ_ _ _=>(oR uz rfl T.B.list mB (ab (aa 0) ae)))) ae)))),?_⟩
 obtain⟨w',rfl,g,h1,f6,q⟩:=h;exact⟨_,rfl,iO (ρ:= [none]) ar ar w' _ (λy hy Y h=>⟨_,rfl,h⟩) rfl (small (by omega)) λaA=>⟨w',rfl,g,h1,f6,q⟩⟩
def JK:b9:=λds P=>∃(w:W)(p:Nat),ds= [ay w,af p,ar (row w p)]/\i9 w/\w.length<=8/\p<w.length/\(row w p).length%2=1/\P (.bl true)
theorem u6{x:Nat}{r:List Nat}:inD (af x) (r.map af)=decide (x∈r):=mM
theorem Ja{r:List Nat}{k:Nat}(h:k<r.length):fO (r.map af) ((k:Int)-1)=some (af (r.getD (if k=0 then r.length-1 else k-1) 0)):=by
 have lr:(r.map af).length=r.length:=aG _
 have ix:jj (r.map af).length ((k:Int)-1)=some (if k=0 then r.length-1 else k-1):=by
  unfold jj;rw[lr]
  by_cases z:k=0
  ·subst z
   rw[if_pos rfl,if_neg (by omega),if_pos (by omega)]
   exact congrArg some (by omega)
  ·rw[if_neg z,if_pos (by omega),if_pos (by omega)]
   exact congrArg some (by omega)
 unfold fO;rw[ix];show(r.map af)[if k=0 then r.length-1 else k-1]? =_;have lt:(if k=0 then r.length-1 else k-1)<r.length:=by split<;>omega
 rw[cA,aV,bO lt];rfl
theorem vz:FnOk P w Z.K mg base bQ 1 T.d__law_wheel.f T.d__law_wheel.fd ["_law_turns","_law_point","_law_ring"] (aM Z JK):=by
 have nd:=ng.nd;refine aP T.d__law_wheel.F ng [0,0,0,0] (by decide) (λds R h=>by obtain⟨_,_,rfl,_⟩:=h;rfl) (λbh A outer s H E ds R hr h=>?_)
 have hu:=hr.units
 refine⟨_,(ah (bM (DW.dt (uM (aS (rQ hu) (aa 2) (aO (aa 0) (aa 1)) (bf _)) (t7 (aS (il hu) (ax cV (aD aZ rfl T.B.len aY (ab (aa 2) ae)) ai) ai (bf _))))) (ao (aL jS)) aX)
   (ah (uK rfl PassesOwn.never (uI rfl T.B.range (ab (aD aZ rfl T.B.len aY (ab (aa 2) ae)) ae)) (aB 3 nd) (ao (bM (aS rR (aO (aa 2) (aa 3)) (aO (aa 0) (aO (aa 2) (ax lh (aa 3) ai))) (by with_unfolding_all rfl)) (ao (aL jS)) aX)))
   (ao (aL jS)))),?_⟩
 obtain⟨w',p,rfl,F,h8,hp,odd,q⟩:=h;have g:=F.g;have lr:((row w' p).map af).length=(row w' p).length:=aG _;have rl:=dZ g p;refine⟨_,rfl,_,rfl,_,rfl,_,bW hp,?_⟩;refine GV ⟨_,rfl,?_⟩;rw[show(!decide (row w' p=row w' p))=false by simp]
 refine cv ⟨_,rfl,?_⟩;dsimp only[cZ,eY,ar];refine⟨(by show(0:Int)<2;decide),?_⟩
 refine wG ⟨_,rfl,AM (decide_eq_false (by show ¬((((row w' p).map af).length:Int)%2=0);rw[lr];omega)) ?_⟩
 refine⟨_,rfl,?_⟩;dsimp only[cZ,eY,ar];refine⟨⟨by omega,by omega⟩,?_⟩
 rw[show((((row w' p).map af).length:Int)).toNat=(row w' p).length by omega]
 refine xG (λj ρ=>∃o3,ρ= [some (ay w'),some (af p),some (ar (row w' p)),o3]) ⟨_,rfl⟩ ?_ ?_
 ·rintro j _ hj ⟨o3,rfl⟩ A hA
  have lt:(if j=0 then(row w' p).length-1 else j-1)<(row w' p).length:=by split<;>omega
  have hm:=br (l:=row w' p) lt;have tt:=F.tri.Ds g hm
  have es:au (row w' p) ((row w' p).getD (if j=0 then(row w' p).length-1 else j-1) 0)=(row w' p).getD j 0:=by
   by_cases z:j=0
   ·subst z
    rw[if_pos rfl];exact ck (g.nod p) (by omega)
   ·rw[if_neg z]
    have:=bA (g.nod p) (i:=j-1) (by omega)
    rw[show j-1+1=j by omega] at this
    exact this
  rw[es] at tt;refine⟨_,rfl,_,rfl,_,g8 hj,_,rfl,_,rfl,_,rfl,_,Ja hj,_,bW (g.rng _ _ hm),rfl,bz _,_,rfl,?_⟩;rw[if_pos rfl,show inD (af ((row w' p).getD j 0)) ((row w' ((row w' p).getD (if j=0 then(row w' p).length-1 else j-1) 0)).map af)=true by rw[u6];exact decide_eq_true tt]
  exact cv (hA _ ⟨_,rfl⟩)
 ·rintro _ ⟨o3,rfl⟩
  exact q
def Jy:b9:=λds P=>∃(w:W)(c:Nat->Nat),ds= [ay w, .lst (List.replicate w.length (ar [0,1,2])),ar ((List.range w.length).map c)]/\Good w/\w.length<=8/\jQ w c/\P (.bl true)
theorem wR:FnOk P w Z.K mg base bQ 1 T.d__law_dyed.f T.d__law_dyed.fd ["_law_turns","_law_lists","_law_told"] (aM Z Jy):=by
 have nd:=oF.nd;refine aP T.d__law_dyed.F oF [0,0,0,0,0] (by decide) (λds R h=>by obtain⟨_,_,rfl,_⟩:=h;rfl) (λbh A outer s H E ds R hr h=>?_)
 have hu:=hr.units
 refine⟨_,(ah (bM (DW.dt (uM (jD (gY (pU "list" (aa 2) rfl T.B.isinstance rfl T.B.list mB))) (t7 (aS (rQ hu) (aD aZ rfl T.B.len aY (ab (aa 2) ae)) (aD aZ rfl T.B.len aY (ab (aa 0) ae)) (bf _))))) (ao (aL jS)) aX)
   (ah (bR rfl PassesOwn.never (cD rfl T.B.enumerate (ab (aa 0) ae)) (cU 2 rfl (aF (aB 3 nd) (aF (aB 4 nd) bK))) (ah (bM (DW.dt (uM (jD (gY (pU "int" (aO (aa 2) (aa 3)) rfl T.B.isinstance rfl T.B.int DX))) (uM (gY (pU "bool" (aO (aa 2) (aa 3)) rfl T.B.isinstance rfl T.B.bool z3)) (t7 (aS rR (aO (aa 2) (aa 3)) (aO (aa 1) (aa 3)) (by with_unfolding_all rfl)))))) (ao (aL jS)) aX)
   (ao (bM (aS vt (aO (aa 2) (aa 3)) (oS (NC:= ["_law_other","_law_told"]) (src:= [none,some 2]) rfl (mh (aq iR)) ⟨rfl,rfl,trivial⟩ (bF (aa 4)) (λ_ _ _=>(bE 0 (show(["_law_other","_law_told"]:List Str).Nodup from by decide+kernel))) (λ_ _ _=>cE) (λ_ _ _=>(aO (aa 1) (aa 0)))) (by with_unfolding_all rfl)) (ao (aL jS)) aX))))
   (ao (aL jS)))),?_⟩
 obtain⟨w',c,rfl,g,h8,C,q⟩:=h;have lw:(w'.map ar).length=w'.length:=aG _;have lc:(((List.range w'.length).map c).map af).length=w'.length:=by rw[aG,aG,iI]
 refine⟨_,rfl,rfl,rfl,cv ⟨_,rfl,_,rfl,?_⟩⟩;dsimp only[cZ,eY];refine uE ?_;refine⟨false,?_,cv ?_⟩
 ·have:decide (((((List.range w'.length).map c).map af).length:Int)=((w'.map ar).length:Int))=true:=decide_eq_true (by rw[lw,lc])
  exact congrArg D.bl (by rw[this];rfl)
 have at_:∀j,j<w'.length->fO (((List.range w'.length).map c).map af) (j:Int)=some (af (c j)):=λj hj=>fB (by rw[cA,cA,oM hj];rfl)
 refine⟨_,rfl,bx (λ_ ρ=>∃o3 o4,ρ= [some (ay w'),some (.lst (List.replicate w'.length (ar [0,1,2]))),some (ar ((List.range w'.length).map c)),o3,o4]) ⟨_,_,rfl⟩ ?_ ?_⟩
 ·rintro j x _ hx ⟨o3,o4,rfl⟩ A' hA
  obtain⟨hj,rfl⟩:=sX hx;have ed:=at_ j hj;have el:fO (List.replicate w'.length (ar [0,1,2])) (j:Int)=some (ar [0,1,2]):=fB (by rw[nK,if_pos hj])
  have c3:=C.lt j hj;refine⟨rfl,rfl,?_⟩;refine⟨_,rfl,_,rfl,_,ed,rfl,rfl,cv ?_⟩;refine⟨_,rfl,_,rfl,_,ed,rfl,rfl,cv ?_⟩;refine⟨_,rfl,_,rfl,_,ed,_,rfl,_,rfl,_,el,rfl,bz _,false,?_,cv ?_⟩
  ·rw[if_pos rfl,u6,decide_eq_true];·rfl
   simp only[cm,ia,or_false];omega
  refine⟨_,rfl,_,rfl,_,ed,_,rfl,iO (ρ:= [none,some (ar ((List.range w'.length).map c))]) af (λq=>af (c q)) (row w' j) _ (λy hy Y h=>?_) rfl (small (by have:=dZ g j;omega)) λaA=>?_⟩
  ·exact⟨_,rfl,_,rfl,_,at_ y (g.rng _ _ hy),h⟩
  have e0:(row w' j).map (λq=>af (c q))=((row w' j).map c).map af:=by rw[eF];rfl
  rw[e0];refine⟨rfl,bz _,false,?_,cv (hA _ ⟨_,_,rfl⟩)⟩;rw[if_neg cK,u6,decide_eq_false];intro m;obtain⟨q,hq,e⟩:=b8.mp m;exact C.ne _ _ hq e.symm
 ·rintro _ ⟨o3,o4,rfl⟩
  exact q
variable {P:Program} {w:World} {mg:Str->Option Value} {base:Heap} {Z:DC} (T:Txt Z mg)
def bZ(l:List Int):List D:=l.map D.int
theorem gR(l:List Int):(bZ l).length=l.length:=aG _
variable {P:Program} {w:World} {mg:Str->Option Value} {base:Heap} {Z:DC} (T:Txt Z mg)
def F4:b9:=λds P=>∃(w:W)(m:Int),ds= [.dA w, .int m]/\(w.length:Int)<=m/\P .bb
theorem rU:FnOk P w Z.K mg base bQ 2 T.d_need_at_most.f T.d_need_at_most.fd ["web","most"] (aM Z F4):=by
 have nd:=kK.nd;refine aP T.d_need_at_most.F kK [0,0] (by decide) (λds R h=>by obtain⟨_,_,rfl,_⟩:=h;rfl) (λbh A outer s H E ds R hr h=>?_)
 have hu:=hr.units;refine⟨_,(ao (bM (aS vq (di T.W (aa 0) T.m_many.m (eW T) (hr.mono (by decide)) T.m_many.b) (aa 1) (bf _)) (ao iU) aX)),?_⟩
 obtain⟨w',m,rfl,hm,q⟩:=h;refine⟨_,rfl,w',rfl,w',rfl,_,rfl,_,rfl,?_⟩;exact AM (decide_eq_false (by omega)) ⟨rfl,q⟩
def ph(L:List Parts):List D:=L.map ay
def Mi:b9:=λds P=>∃(parts:Parts)(p:Nat)(row:List Nat),ds= [ay parts,af p,ar row]/\parts.length<=100/\(∀i,(parts.getD i []).length<=100)/\P (.lst (ph (cC parts p row)))
theorem Js{α:Type}(l:List α)(k:Nat)(x:α)(h:k<l.length):l.take k++ [x]++l.drop (k+1)=l.set k x:=by
 rw[List.set_eq_take_append_cons_drop,if_pos h];simp
theorem vC:FnOk P w Z.K mg base bQ 1 T.d_parts_with.f T.d_parts_with.fd ["parts","p","row"] (aM Z Mi):=by
 have nd:=nj.nd;refine aP T.d_parts_with.F nj [0,0,0,1,0,0] (by decide) (λds R h=>by obtain⟨_,_,_,rfl,_⟩:=h;rfl) (λbh A outer s H E ds R hr h=>?_)
 have hu:=hr.units
 refine⟨_,(ah (kX 3 nd (fh (ab (ax aN (aa 0) (bG (ab (bG (ab (aa 1) ae)) ae))) ae)))
   (ah (bR rfl PassesOwn.never (cD rfl T.B.enumerate (ab (aa 0) ae)) (cU 2 rfl (aF (aB 4 nd) (aF (aB 5 nd) bK))) (ao (bM (jD (gY (oS (NC:= ["q","row"]) (src:= [none,some 2]) rfl (mh (aq gZ)) ⟨rfl,rfl,trivial⟩ (bF (aa 5)) (λ_ _ _=>(bE 0 (show(["q","row"]:List Str).Nodup from by decide+kernel))) (λ_ _ _=>(p5 (aS vt (aa 0) (aa 1) (by with_unfolding_all rfl)))) (λ_ _ _=>(aa 0))))) (ao (t4 false 3 (ax aN (ax aN (cO (aa 0) dU (dW (aa 4))) (bG (ab (ax aN (aa 5) (bG (ab (aa 1) ae))) ae))) (cO (aa 0) (dW (ax aN (aa 4) ai)) dU)))) aX)))
   (ao (aL (aa 3))))),?_⟩
 obtain⟨parts,p,row,rfl,h1,h2,q⟩:=h;have lp:(parts.map ar).length=parts.length:=aG _;have big:∀n,n<=1000->n<=sizeLine:=λn h=>small h;refine⟨_,rfl,_,rfl,by show 1<=sizeLine;decide,by show 1<=sizeLine;decide,big _ (by rw[lp];show parts.length+1<=1000;omega),by show 1<=sizeLine;decide,?_⟩
 have e0:(.lst (parts.map ar++ [.lst [af p]]):D)=ay (parts++ [[p]]):=by unfold ay;rw[dO];rfl
 refine⟨_,rfl,bx (λj ρ=>∃o1 o2,ρ= [some (ay parts),some (af p),some (ar row),some (.lst (ay (parts++ [[p]])::ph (((List.range j).filter λi=>jg row (parts.getD i [])).map λi=>parts.set i (parts.getD i []++ [p])))),o1,o2]) ⟨_,_,by rw[<-e0];rfl⟩ ?_ ?_⟩
 ·rintro j d _ hd ⟨o1,o2,rfl⟩ A hA
  obtain⟨y,hy,rfl⟩:=eQ hd;obtain⟨part,hp,rfl⟩:=bN hy;have hj:j<parts.length:=(dE.mp hp).1;have ep:parts.getD j []=part:=by rw[aV,hp];rfl
  have eG:part.length<=100:=by rw[<-ep];exact h2 j
  refine⟨rfl,rfl,?_⟩;refine⟨_,rfl,qp (ρ:= [none,some (ar row)]) af (λq=>decide (q∈row)) af part _ [] _ (λy hy Y Nn t1 t2=>?_) ⟨none,rfl⟩ (by simp;exact big _ (by omega)) λaA=>⟨rfl,?_⟩⟩
  ·refine⟨_,rfl,_,rfl,rfl,bz _,_,rfl,?_⟩
   rw[if_neg cK,mM];refine cH (λe=>⟨_,rfl,t1 e⟩) (λe=>t2 e)
  ·have et:sU (.lst ([]++((part.filter λq=>decide (q∈row)).map af)))= !jg row part:=by
    simp only[sU,qX]
    congr 1
    unfold jg;clear eG ep hp hy hd
    induction part with
    |nil=>rfl
    |cons a l ih=>
     rw[gG,r6]
     by_cases h:a∈row
     ·simp[h]
     ·simp only[h,decide_false,hV,if_false,Bool.not_false,Bool.true_and]
      exact ih
   have er:(List.range (j+1)).filter (λi=>jg row (parts.getD i []))=(List.range j).filter (λi=>jg row (parts.getD i []))++(if jg row part=true then[j] else[]):=by
    rw[List.range_succ,List.filter_append,gG,ep];rfl
   refine cH (λe=>?_) (λe=>?_)
   ·rw[et,Bool.not_not] at e
    have hs:parts.take j++ [part++ [p]]++parts.drop (j+1)=parts.set j (parts.getD j []++ [p]):=by rw[Js _ _ _ hj,ep]
    have O1:cutD (parts.map ar) none (some (j:Int))=(parts.take j).map ar:=by rw[gN _ _ (by rw[lp];omega),tj]
    have TF:cutD (parts.map ar) (some ((j:Int)+1)) none=(parts.drop (j+1)).map ar:=by
     have:=fW (parts.map ar) (j+1) (by rw[lp];omega)
     rw[qY,<-this];rfl
    have l1:(parts.take j).length<=100:=by rw[eD];omega
    have l2:(parts.drop (j+1)).length<=100:=by rw[kN];omega
    refine⟨_,rfl,_,rfl,_,rfl,_,rfl,_,rfl,by show 1<=sizeLine;decide,big _ ?_,by show 1<=sizeLine;decide,big _ ?_,_,rfl,_,rfl,big _ ?_,trivial,?_,?_⟩
    ·rw[aG];show part.length+1<=1000;omega
    ·rw[O1,aG];show _+1<=1000;omega
    ·rw[O1]
     refine(?_:_+(cutD (parts.map ar) (some ((j:Int)+1)) none).length<=1000);rw[TF,cx,aG,aG];show _+1+_<=1000;omega
    ·refine f7 ?_
     show _+1<=1000;unfold ph;rw[aG,aG]
     have:=List.length_filter_le (λi=>jg row (parts.getD i [])) (List.range j)
     rw[iI] at this;omega
    ·refine hA _ ⟨some (.int (j:Int)),some (ar part),?_⟩
     have:D.lst (cutD (parts.map ar) none (some (j:Int))++ [.lst (part.map af++ [af p])]++cutD (parts.map ar) (some ((j:Int)+1)) none)=ay (parts.take j++ [part++ [p]]++parts.drop (j+1)):=by
      rw[O1,TF];unfold ay;rw[dO,dO];unfold ar;simp
     rw[er,e,if_pos rfl,this,hs];unfold ph;rw[dO,dO];rfl
   ·rw[et,Bool.not_not] at e
    rw[e,if_neg cK,kP] at er;exact hA _ ⟨_,_,by rw[er];rfl⟩
 ·rintro _ ⟨o1,o2,rfl⟩
  refine⟨_,rfl,?_⟩;rw[fo,lp];exact q
theorem u7{l:List Int}{i:Nat}(h:i<l.length):(bZ l)[i]? =some (.int (l.getD i 0)):=by
 unfold bZ;rw[cA,aV,bO h];rfl
theorem u9(l:List Int)(i:Nat)(x:Int):(bZ l).set i (.int x)=bZ (l.set i x):=by unfold bZ;rw[wx]
theorem Dd(n:Nat):(cW 0 n).map (λ_=>D.int 0)=bZ (List.replicate n 0):=by
 unfold cW bZ;rw[eF,List.map_replicate];refine wo λi=>?_;rw[cA,nK]
 by_cases h:i<n
 ·rw[oM h,if_pos h];rfl
 ·rw[fi (by simpa using gL h),if_neg h];rfl
theorem AS{te:bg}{n:Nat}{N:DN->List D->Prop}(ht:te=dC (.int 0))(hz:n<=sizeLine)(h:∀aA,N aA (bZ (List.replicate n 0))):lcW (pX 0) kd te (cW 0 n) [none] [] N:=by
 subst ht
 have:=iO (i:=0) (ρ:= [none]) (λd:D=>d) (λ_=>D.int 0) (cW 0 n) N (λy hy Y h=>h) rfl (by unfold cW;simpa using hz) (λaA=>by rw[Dd];exact h aA) (te:=dC (.int 0))
 simpa using this
def Di:b9:=λds P=>∃(w:W),ds= [.dA w]/\1<=w.length/\w.length<=8/\P (.lst (bZ (counts (List.replicate (w.length+1) 0) (ig (row w) w.length))))
theorem mR:FnOk P w Z.K mg base bQ 2 T.d_counted_by_parts.f T.d_counted_by_parts.fd ["web"] (aM Z Di):=by
 have nd:=hJ.nd;refine aP T.d_counted_by_parts.F hJ [0,0,0,0,1,0] (by decide) (λds R h=>by obtain⟨_,rfl,_⟩:=h;rfl) (λbh A outer s H E ds R hr h=>?_)
 have hu:=hr.units
 refine⟨_,(ah (aH false 1 nd (bG (ab (bG ae) ae)))
   (ah (bR rfl PassesOwn.never (cD rfl T.B.enumerate (ab (di T.W (aa 0) T.m_turns.m (oq T) (hr.mono (by decide)) T.m_turns.b) ae)) (cU 2 rfl (aF (aB 2 nd) (aF (aB 3 nd) bK))) (ao (B5 1 (NC:= ["parts","told","p","row"]) (src:= [none,none,some 2,some 3]) rfl nd (mh (aq cF)) ⟨rfl,rfl,rfl,rfl,trivial⟩ (bF (aa 1)) (λ_ _ _=>(bE 0 (show(["parts","told","p","row"]:List Str).Nodup from by decide+kernel))) (λ_ _ _=>cE) (λ_ _ _=>(bF (aE T.d_parts_with (vC T) hr (ab (aa 0) (ab (aa 2) (ab (aa 3) ae)))))) (λ_ _ _=>(bE 1 (show(["parts","told","p","row"]:List Str).Nodup from by decide+kernel))) (λ_ _ _=>cE) (λ_ _ _=>(aa 1)))))
   (ah (kh 4 (NC:= ["place"]) (src:= [none]) rfl nd (mh (aq cF)) trivial (oU rfl T.B.range (ab (ax aN (di T.W (aa 0) T.m_many.m (eW T) (hr.mono (by decide)) T.m_many.b) ai) ae)) (λ_ _ _=>(bE 0 (show(["place"]:List Str).Nodup from by decide+kernel))) (λ_ _ _=>cE) (λ_ _ _=>ai))
   (ah (bR rfl PassesOwn.never (bF (aa 1)) (aB 5 nd) (ao (xk 4 (aD aZ rfl T.B.len aY (ab (aa 5) ae)) Eg ai)))
   (ao (aL (aa 4))))))),?_⟩
 obtain⟨w',rfl,h1,h8,q⟩:=h;have f8:=uR h8;have big:∀n,n<=1000000->n<sizeLine:=λn h=>Nat.lt_of_le_of_lt h (by decide)
 refine⟨by show 0<=sizeLine;decide,by show 1<=sizeLine;decide,trivial,?_⟩
 refine⟨_,rfl,w',rfl,w',rfl,by omega,bx (λj ρ=>∃o2 o3 o4 o5,ρ= [some (.dA w'),some (.lst (ph (ig (row w') j))),o2,o3,o4,o5]) ⟨_,_,_,_,rfl⟩ ?_ ?_⟩
 ·rintro j d _ hd ⟨o2,o3,o4,o5,rfl⟩ A hA
  obtain⟨hj,rfl⟩:=sX hd;refine⟨rfl,rfl,?_⟩
  have hs:(ig (row w') (j+1)).length<=1000000:=by
   have:=rF (row w') (j+1)
   have:=uR (n:=j+1) (by omega)
   omega
  refine⟨_,rfl,AR (λρ=>∃o0 o1,ρ= [o0,o1,some (af j),some (ar (row w' j))]) ay (λparts=>cC parts j (row w' j)) ay (ig (row w') j) _ [] _ ?_ ?_ ⟨_,_,rfl⟩ (by rw[<-km];simpa using qZ (big _ hs)) ⟨trivial,?_⟩⟩
  ·rintro parts hp _ ⟨o0,o1,rfl⟩ Y hY
   have l1:=qg _ _ _ hp;have l2:=xB _ _ _ hp;exact⟨_,rfl,_,rfl,_,rfl,parts,j,row w' j,rfl,by omega,λi=>jx (l2 i) (by omega),hY _ ⟨_,_,rfl⟩⟩
  ·rintro parts hp b hb _ ⟨o0,o1,rfl⟩ Y hY
   exact⟨_,rfl,hY _ ⟨_,_,rfl⟩⟩
  ·rw[qX,<-km]
   exact hA _ ⟨_,_,_,_,rfl⟩
 ·rintro _ ⟨o2,o3,o4,o5,rfl⟩
  rw[fo,aG];refine⟨_,rfl,w',rfl,w',rfl,⟨by omega,by omega⟩,?_⟩
  rw[show((w'.length:Int)+1).toNat=w'.length+1 by omega]
  refine AS rfl (qZ (big _ (by omega))) λaA=>?_
  refine⟨_,rfl,bx (λj ρ=>∃o2 o3 o5,ρ= [some (.dA w'),some (.lst (ph (ig (row w') w'.length))),o2,o3,some (.lst (bZ (counts (List.replicate (w'.length+1) 0) ((ig (row w') w'.length).take j)))),o5]) ⟨_,_,_,rfl⟩ ?_ ?_⟩
  ·rintro j d _ hd ⟨o2,o3,o5,rfl⟩ A hA
   obtain⟨F,hF,rfl⟩:=bN hd;have hl:=qg _ _ _ (e9 hF);have hc:(counts (List.replicate (w'.length+1) 0) ((ig (row w') w'.length).take j)).length=w'.length+1:=by rw[jC];simp
   have T7:F.length<(counts (List.replicate (w'.length+1) 0) ((ig (row w') w'.length).take j)).length:=by omega
   have lF:((F.map ar).length:Int)=((F.length:Nat):Int):=by rw[aG]
   refine⟨_,rfl,_,rfl,_,F.length,_,rfl,?_,u7 T7,_,rfl,?_⟩
   ·rw[lF,gR];exact bL T7
   ·rw[u9]
    refine hA _ ⟨o2,o3,some (ay F),?_⟩;rw[wb,hF,zS,yP];rfl
  ·rintro _ ⟨o2,o3,o5,rfl⟩
   refine⟨_,rfl,?_⟩
   have:(ph (ig (row w') w'.length)).length=(ig (row w') w'.length).length:=aG _
   rw[this,yG];exact q
def Mg:b9:=λds P=>∃(w:W),ds= [.dA w]/\1<=w.length/\w.length<=8/\P (.lst (bZ (qR (row w) w.length)))
theorem FF:FnOk P w Z.K mg base bQ 3 T.d_ways.f T.d_ways.fd ["web"] (gB Z 1 Mg):=by
 have nd:=Bl.nd;refine kn 1 T.d_ways.F Bl [0,1,0,0,0,0,0] (by decide) (λds R h=>by obtain⟨_,rfl,_⟩:=h;rfl) (λbh A outer s H E ds R hr h=>?_)
 have hu:=hr.units
 refine⟨_,(ah (uJ (aE T.d_need_at_most (rU T) hr (ab (aa 0) (ab (xi rfl T.c_MOST_COUNTED) ae))))
   (ah (kh 1 (NC:= ["place"]) (src:= [none]) rfl nd (mh (aq qH)) trivial (oU rfl T.B.range (ab (ax aN (di T.W (aa 0) T.m_many.m (eW T) (hr.mono (by decide)) T.m_many.b) ai) ae)) (λ_ _ _=>(bE 0 (show(["place"]:List Str).Nodup from by decide+kernel))) (λ_ _ _=>cE) (λ_ _ _=>ai))
   (ah (aH false 2 nd (bG (ab ai ae)))
   (ah (bR rfl PassesOwn.never (cD rfl T.B.enumerate (ab (aE T.d_counted_by_parts (mR T) hr (ab (aa 0) ae)) ae)) (cU 2 rfl (aF (aB 3 nd) (aF (aB 4 nd) bK))) (ah (bR rfl PassesOwn.never (cD rfl T.B.enumerate (ab (aa 2) ae)) (cU 2 rfl (aF (aB 5 nd) (aF (aB 6 nd) bK))) (ao (xk 1 (aa 5) Eg (ax jI (aa 4) (aa 6)))))
   (ao (xo 2 (NC:= ["up","same","less"]) (src:= [none,none,some 3]) rfl nd (mh (aq qH)) ⟨rfl,rfl,trivial⟩ (Kz rfl T.B.zip (ab (ax aN (bG (ab ai ae)) (aa 2)) (ab (ax aN (aa 2) (bG (ab ai ae))) ae))) (λ_ _ _=>(tZ 2 rfl (gh (bE 0 (show(["up","same","less"]:List Str).Nodup from by decide+kernel)) (gh (bE 1 (show(["up","same","less"]:List Str).Nodup from by decide+kernel)) pY)))) (λ_ _ _=>cE) (λ_ _ _=>(ax lh (aa 0) (ax jI (aa 2) (aa 1))))))))
   (ao (Ao 1)))))),?_⟩
 obtain⟨w',rfl,h1,h8,q⟩:=h;have f8:=uR h8;have big:∀n,n<=1000000->n<sizeLine:=λn h=>Nat.lt_of_le_of_lt h (by decide)
 refine⟨_,rfl,w',8,rfl,by omega,?_⟩
 refine⟨_,rfl,w',rfl,w',rfl,⟨by omega,by omega⟩,?_⟩
 rw[show((w'.length:Int)+1).toNat=w'.length+1 by omega]
 refine AS rfl (qZ (big _ (by omega))) λaA=>?_
 refine⟨by show 1<=sizeLine;decide,trivial,?_⟩
 generalize Cg:counts (List.replicate (w'.length+1) 0) (ig (row w') w'.length)=cs;have lcs:cs.length=w'.length+1:=by rw[<-Cg,jC];simp
 refine⟨_,rfl,w',rfl,h1,h8,?_⟩;rw[Cg];refine bx (λj ρ=>∃o3 o4 o5 o6,ρ= [some (.dA w'),some (.lst (bZ (f9 (List.replicate (w'.length+1) 0) (cs.take j) 0))),some (.lst (bZ (bH j))),o3,o4,o5,o6]) ⟨_,_,_,_,rfl⟩ ?_ ?_
 ·rintro j d _ hd ⟨o3,o4,o5,o6,rfl⟩ A hA
  obtain⟨y,hy,rfl⟩:=eQ hd;obtain⟨c,hc,rfl⟩:=bN hy;have hj:j<cs.length:=(dE.mp hc).1;have cb:=BZ (row w') w'.length j (by omega)
  rw[Cg,aV,hc] at cb;have cb:0<=c/\c<=fact w'.length:=cb;generalize ht:f9 (List.replicate (w'.length+1) 0) (cs.take j) 0=t;have lt:t.length=w'.length+1:=by rw[<-ht,vZ];simp
  refine⟨rfl,rfl,?_⟩;refine⟨_,rfl,bx (λi ρ=>∃o5 o6,ρ= [some (.dA w'),some (.lst (bZ (cR t (((bH j).take i).map (c*·))))),some (.lst (bZ (bH j))),some (.int (j:Int)),some (.int c),o5,o6]) ⟨_,_,by rw[List.take_zero,List.map_nil,uj];rfl⟩ ?_ ?_⟩
  ·rintro i d' _ gP ⟨o5,o6,rfl⟩ A' u0
   obtain⟨y',AH,rfl⟩:=eQ gP;obtain⟨f,hf,rfl⟩:=bN AH;have hi:i<(bH j).length:=(dE.mp hf).1;rw[fZ] at hi;have lta:(cR t (((bH j).take i).map (c*·))).length=w'.length+1:=by rw[kU,lt]
   have Uq:i<(cR t (((bH j).take i).map (c*·))).length:=by omega
   refine⟨rfl,rfl,?_⟩;refine⟨_,rfl,_,rfl,_,i,_,rfl,by rw[gR];exact bL Uq,u7 Uq,_,rfl,_,rfl, .inl ⟨by omega,by omega⟩,_,rfl,?_⟩
   rw[u9];refine u0 _ ⟨some (.int (i:Int)),some (.int f),?_⟩
   have e:cR t (((bH j).take (i+1)).map (c*·))=(cR t (((bH j).take i).map (c*·))).set i ((cR t (((bH j).take i).map (c*·))).getD i 0+c*f):=by
    have hl:(((bH j).take i).map (c*·)).length=i:=by rw[aG,eD,fZ];omega
    rw[wb,hf,zS,dO]
    have:=sg (c*f) t (((bH j).take i).map (c*·)) (by rw[hl];omega)
    rw[hl] at this;exact this
   rw[e];rfl
  ·rintro _ ⟨o5,o6,rfl⟩
   rw[fo,gR,yG];refine⟨by show 1<=sizeLine;decide,_,rfl,?_⟩
   refine⟨by rw[gR,fZ];show 1+(j+1)<=sizeLine;exact qZ (big _ (by omega)),_,rfl,by show 1<=sizeLine;decide,by rw[gR,fZ];show j+1+1<=sizeLine;exact qZ (big _ (by omega)),?_⟩
   have e1: [D.int 0]++bZ (bH j)=bZ (0::bH j):=rfl;have e2:bZ (bH j)++ [D.int 0]=bZ (bH j++ [0]):=by unfold bZ;rw[dO];rfl
   have e0:nJ (bZ (0::bH j)) (bZ (bH j++ [0]))=((0::bH j).zip (bH j++ [0])).map λy=>D.tup [.int y.1, .int y.2]:=yA D.int _ _;rw[e1,e2];refine(?_:lcW _ _ _ (nJ (bZ (0::bH j)) (bZ (bH j++ [0]))) _ _ _);rw[e0];refine iP (λρ=>∃o0 o1,ρ= [o0,o1,some (.int (j:Int))]) (λy:Int×Int=>D.tup [.int y.1, .int y.2]) (λ_=>true) (λy=> .int (y.1-j*y.2)) _ _ [] _ ?_ ⟨_,_,rfl⟩ ?_ ?_
   ·rintro y hy _ ⟨o0,o1,rfl⟩ Y Nn hY _
    refine⟨rfl,rfl,?_⟩;exact J3 ⟨_,rfl,_,rfl,_,rfl, .inl ⟨by omega,by omega⟩,hY _ ⟨_,_,rfl⟩ rfl⟩
   ·rw[List.length_zip,cx,cw,fZ]
    show 0+_<=sizeLine
    have:=big (j+2) (by omega)
    simp;omega
   ·rintro _ ⟨o0,o1,rfl⟩
    refine⟨trivial,hA _ ⟨some (.int (j:Int)),some (.int c),o5,o6,?_⟩⟩;rw[List.filter_eq_self.mpr (λ_ _=>rfl),qX]
    have e3:((0::bH j).zip (bH j++ [0])).map (λy:Int×Int=>D.int (y.1-j*y.2))=bZ (bH (j+1)):=by
     unfold bZ;rw[bH,vn,<-zip_map,eF];rfl
    rw[e3]
    have e4:f9 (List.replicate (w'.length+1) 0) (cs.take (j+1)) 0=cR t ((bH j).map (c*·)):=by
     rw[wb,hc,zS,v5,ht];rw[eD,show 0+min j cs.length=j by omega]
    rw[e4];rfl
 ·rintro _ ⟨o3,o4,o5,o6,rfl⟩
  refine⟨_,rfl,?_⟩;rw[fo,gR,yG];unfold qR at q;rw[Cg] at q;exact q
variable {P:Program} {w:World} {mg:Str->Option Value} {base:Heap} {Z:DC} (T:Txt Z mg)
def F9:b9:=λds P=>∃(w:W)(k:Int),ds= [.dA w, .int k]/\1<=w.length/\w.length<=8/\(-(2^64)<k/\k<2^64)/\P (.int (ev (qR (row w) w.length) k))
theorem A6:FnOk P w Z.K mg base bQ 4 T.d_ways_by.f T.d_ways_by.fd ["web","many"] (aM Z F9):=by
 have nd:=sQ.nd;refine aP T.d_ways_by.F sQ [0,0,0,0] (by decide) (λds R h=>by obtain⟨_,_,rfl,_⟩:=h;rfl) (λbh A outer s H E ds R hr h=>?_)
 have hu:=hr.units
 refine⟨_,(ah (aH false 2 nd ai)
   (ah (bR rfl PassesOwn.never (Ky rfl T.B.reversed (ab (aE T.d_ways ((FF T).imp F7) hr (ab (aa 0) ae)) ae)) (aB 3 nd) (ao (aH false 2 nd (ax aN (ax jI (aa 2) (aa 1)) (aa 3)))))
   (ao (aL (aa 2))))),?_⟩
 obtain⟨w',k,rfl,h1,h8,hk,q⟩:=h;refine⟨trivial,?_⟩;refine⟨_,rfl,w',rfl,h1,h8,?_⟩;generalize hl:qR (row w') w'.length=l at q;have er:(bZ l).reverse=l.reverse.map D.int:=by unfold bZ;rw[List.map_reverse]
 refine(?_:ko _ _ _ (bZ l).reverse _);rw[er];refine bx (λj ρ=>∃o3,ρ= [some (.dA w'),some (.int k),some (.int ((l.reverse.take j).foldl (λt a=>t*k+a) 0)),o3]) ⟨_,rfl⟩ ?_ ?_
 ·rintro j d _ hd ⟨o3,rfl⟩ A hA
  obtain⟨a,ha,rfl⟩:=bN hd;refine⟨_,rfl,_,rfl, .inr hk,_,rfl,trivial,hA _ ⟨some (.int a),?_⟩⟩;rw[wb,ha,zS,List.foldl_append];rfl
 ·rintro _ ⟨o3,rfl⟩
  refine⟨_,rfl,?_⟩;rw[aG,yG,KJ];exact q
end uf
namespace Ws
open Wb Wy
theorem qt(w:Nat->List Nat)(k:Nat):∀(p:Nat)(r:List Nat),r∈mH w k p↔r.length=p/\∀i,i<p->r.getD i 0<k/\∀x∈w i,x<i->r.getD x 0≠r.getD i 0
 |0,r=>by
  have:r∈mH w k 0↔r= []:=by simp[mH,eo]
  rw[this]
  constructor
  ·rintro rfl;exact⟨rfl,λi h=>by omega⟩
  ·rintro⟨h,_⟩;exact BI.mp h
 |p+1,r=>by
  rw[rE,oN]
  constructor
  ·rintro⟨r0,h0,hr⟩
   obtain⟨d,hd,rfl⟩:=b8.mp hr;obtain⟨hl,jh⟩:=(qt w k p r0).mp h0;unfold qc at hd;rw[ib,cT] at hd;obtain⟨hk,hn⟩:=hd;have hn:d∉taken r0 (w r0.length):=by simpa using hn
   have g0:∀x,x<p->(r0++ [d]).getD x 0=r0.getD x 0:=λx hx=>by
    rw[aV,gk (by omega),<-aV]
   have g1:(r0++ [d]).getD p 0=d:=by
    rw[aV,hU (by omega),hl,kQ];rfl
   refine⟨by simp[hl],λi hi=>?_⟩
   by_cases e:i<p
   ·obtain⟨a,b⟩:=jh i e
    rw[g0 i e];exact⟨a,λx hx cG=>by rw[g0 x (by omega)];exact b x hx cG⟩
   ·have:i=p:=by omega
    subst this;rw[g1];refine⟨hk,λx hx cG z=>hn ?_⟩;unfold taken;rw[b8];rw[g0 x cG] at z;refine⟨x,?_,z⟩;rw[ib,hl];exact⟨hx,by simpa using cG⟩
  ·rintro⟨hl,jh⟩
   have hp:p<r.length:=by omega
   refine⟨r.take p,(qt w k p _).mpr ⟨by rw[eD];omega,λi hi=>?_⟩,b8.mpr ⟨r.getD p 0,?_,?_⟩⟩
   ·have g0:∀x,x<p->(r.take p).getD x 0=r.getD x 0:=λx hx=>by
     rw[aV,qT hx,<-aV]
    obtain⟨a,b⟩:=jh i (by omega)
    rw[g0 i hi];exact⟨a,λx hx cG=>by rw[g0 x (by omega)];exact b x hx cG⟩
   ·obtain⟨a,b⟩:=jh p (by omega)
    have lt:(r.take p).length=p:=by rw[eD];omega
    unfold qc;rw[ib,cT];refine⟨a,?_⟩
    have:r.getD p 0∉taken (r.take p) (w (r.take p).length):=by
     unfold taken;rw[b8];rintro⟨x,hx,e⟩;rw[ib,lt] at hx;have US:x<p:=by simpa using hx.2
     rw[aV,qT US,<-aV] at e;exact b x hx.1 US e
    simpa using this
   ·have e:r.getD p 0=r[p]:=by rw[aV,bO hp];rfl
    rw[e,List.take_append_getElem hp,show p+1=r.length by omega,yG]
end Ws
namespace Wy
open Wb Ws
theorem uO(g:Nat->List Nat)(k:Nat):∀n,(mH g k n).Nodup
 |0=>by simp[mH,eo]
 |n+1=>by
  rw[rE];unfold List.Nodup;rw[List.pairwise_flatMap];refine⟨λr hr=>?_,?_⟩
  ·rw[lZ]
   have:(qc k r (g r.length)).Nodup:=by unfold qc;exact List.nodup_range.filter _
   exact this.imp λh e=>h (by simpa using e)
  ·refine List.Pairwise.imp_of_mem (λ {a b} ha hb h=>?_) (uO g k n)
   intro x hx y hy e;obtain⟨d,_,rfl⟩:=b8.mp hx;obtain⟨c,_,rfl⟩:=b8.mp hy;have h1:=uN g k n a ha;have h2:=uN g k n b hb;exact h (List.append_inj e (by omega)).1
end Wy
namespace Wb
open Wy
theorem qe{w:W}(g:Good w){r:List Nat}(h:r∈mH (row w) 3 w.length):r.length=w.length/\jQ w λp=>r.getD p 0:=by
 obtain⟨hl,hd⟩:=(Ws.qt _ _ _ _).mp h;refine⟨hl,λp hp=>(hd p hp).1,λp q hq e=>?_⟩;have pl:=aI hq;have ql:=g.rng _ _ hq
 rcases Nat.lt_trichotomy p q with c|c|c
 ·exact(hd q ql).2 p (g.sym _ _ hq) c e
 ·subst c;exact g.irr p hq
 ·exact(hd p pl).2 q hq c e.symm
theorem GP{w:W}{c:Nat->Nat}(C:jQ w c):(List.range w.length).map c∈mH (row w) 3 w.length:=by
 have at_:∀i,i<w.length->((List.range w.length).map c).getD i 0=c i:=λi hi=>by
  rw[aV,cA,oM hi];rfl
 refine(Ws.qt _ _ _ _).mpr ⟨by rw[aG,iI],λi hi=>⟨by rw[at_ i hi];exact C.lt i hi,λx hx lt=>?_⟩⟩
 rw[at_ i hi,at_ x (by omega)]
 exact λe=>C.ne _ _ hx e.symm
theorem Io{w:W}(g:Good w)(h:¬∃c,jQ w c):(mH (row w) 3 w.length).length=0:=by
 cases e:mH (row w) 3 w.length with
 |nil=>rfl
 |cons r rs=>exact absurd ⟨_,(qe g (by rw[e];exact b6 ..)).2⟩ h
theorem F0{w:W}(F:i9 w)(h:∃c,jQ w c):(mH (row w) 3 w.length).length=6:=by
 have g:=F.g;have n3:=F.n3;obtain⟨c,C⟩:=h
 obtain⟨q,hq⟩:∃q,q∈row w 0:=by
  have:=g.zE (p:=0) (by omega) (by omega)
  exact List.exists_mem_of_ne_nil _ this
 have ql:=g.rng _ _ hq
 have i1:((mH (row w) 3 w.length).map λr=>(r.getD 0 0,r.getD q 0)).Nodup:=by
  refine lZ.mpr ?_;refine(List.pairwise_iff_forall_sublist.mpr ?_);intro r r' hs e;have hr:=hs.subset (b6 ..);have wL:=hs.subset (bP _ (b6 ..));obtain⟨l1,C1⟩:=qe g hr;obtain⟨l2,C2⟩:=qe g wL;have same:=C1.one C2 g F.tri hq (Prod.mk.inj e).1 (Prod.mk.inj e).2
  have:r=r':=by
   refine List.ext_getElem (by rw[l1,l2]) λi h1 h2=>?_
   have:=same i (by rw[<-l1];exact h1)
   rw[aV,aV,bO h1,bO h2] at this;exact this
  subst this;have nd:=uO (row w) 3 w.length
  have:=nd.sublist hs
  simp at this
 have S1:∀p:Nat×Nat,p∈ [(0,1),(0,2),(1,0),(1,2),(2,0),(2,1)]↔p.1<3/\p.2<3/\p.1≠p.2:=by
  rintro⟨a,b⟩;simp only[cm,ia,or_false,Prod.mk.injEq];omega
 have le:((mH (row w) 3 w.length).map λr=>(r.getD 0 0,r.getD q 0)).length<=6:=aQ (m:= [(0,1),(0,2),(1,0),(1,2),(2,0),(2,1)]) i1 λp hp=>by
  obtain⟨r,hr,rfl⟩:=b8.mp hp;obtain⟨l1,C1⟩:=qe g hr;exact(S1 _).mpr ⟨C1.lt 0 (by omega),C1.lt q ql,C1.ne _ _ hq⟩
 have ge: [(0,1),(0,2),(1,0),(1,2),(2,0),(2,1)].length<=((mH (row w) 3 w.length).map λr=>(r.getD 0 0,r.getD q 0)).length:=aQ (by decide) λp hp=>by
  obtain⟨h1,h2,h3⟩:=(S1 p).mp hp;have C':=C.any g hq h1 h2 h3;refine b8.mpr ⟨_,GP C',?_⟩;have n0:=C.ne _ _ hq
  have e0:∀(c':Nat->Nat) i,i<w.length->((List.range w.length).map c').getD i 0=c' i:=λc' i hi=>by
   rw[aV,cA,oM hi];rfl
  rw[e0 _ 0 (by omega),e0 _ q ql]
  refine Prod.ext ?_ ?_
  ·simp
  ·simp[n0.symm]
 rw[aG] at le ge
 have: [(0,1),(0,2),(1,0),(1,2),(2,0),(2,1)].length=6:=rfl
 omega
end Wb
namespace uf
open PySem L2 Wb
variable {P:Program} {w:World} {mg:Str->Option Value} {base:Heap} {Z:DC} (T:Txt Z mg)
open Wy
theorem GS{a b:Str}{P:D->Prop}(h:P (.bl (decide (a=b)))):GR (.str a) (.str b) P:=⟨.str a, .str b,rfl,rfl,by simp[PyData.depth],by
 have:PyData.eqv (.str a) (.str b)=decide (a=b):=by
  rw[PyData.eqv]
  by_cases z:a=b<;>simp[z]
 rw[if_neg cK,this];exact h⟩
theorem Bh{α:Type}(x:α):∀n:Nat,(List.replicate n [x]).flatten=List.replicate n x
 |0=>rfl
 |n+1=>by rw[oK,nN,Bh x n];rfl
theorem O2{i j:Str}{P:D->Prop}{ρ:DN}(h:P (.bl (decide (i=j)))):dC (.str j) ρ (λb=>GR (.str i) b P):=GS h
theorem Ls:FnOk P w Z.K mg base bQ 8 T.d_law.f T.d_law.fd ["_law_script"] (aM Z EE):=by
 have nd:=ED.nd;refine aP T.d_law.F ED [0,0,0,0,0] (by decide) (λds R h=>by obtain⟨_,rfl,_⟩:=h;rfl) (λbh A outer s H E ds R hr h=>?_)
 have hu:=hr.units
 refine⟨_,(ah (aH false 1 nd (aE T.d__law_filled (tN T) hr (ab (aa 0) ae)))
   (ah (aH false 2 nd (aE T.d__law_web (zv T) hr (ab (aa 1) ae)))
   (ah (aH false 3 nd (aE T.d_three_dyes (vF T) hr (ab (aa 2) ae)))
   (ah (aH false 4 nd (aE T.d_ways_by (A6 T) hr (ab (aa 2) (ab ai ae))))
   (ah (bM (aS (il hu) (aO (aa 3) ai) iM (bf _)) (ao (aL (pT (tY (il hu) (aa 4) ai (bf _)) (yT (aE T.d__law_dyed (wR T) hr (ab (aa 1) (ab (ax jI (bG (ab (bG (ab ai (ab ai (ab ai ae)))) ae)) (aD aZ rfl T.B.len aY (ab (aa 1) ae))) (ab (aO (aa 3) ai) ae)))))))) aX)
   (ao (aL (pT (tY (il hu) (aO (aa 3) ai) iM (bf _)) (pT (tY (il hu) (aa 4) ai (bf _)) (yT (aE T.d__law_wheel (vz T) hr (ab (aa 1) (ab (aO (aa 3) ai) (ab (aO (aa 3) ai) ae)))))))))))))),?_⟩
 obtain⟨ns,rfl,_,q⟩:=h;refine⟨_,rfl,ns,rfl,λw' F h8=>⟨trivial,?_⟩⟩;have g:=F.g;have n3:=F.n3;have lw:(w'.map ar).length=w'.length:=aG _;refine⟨_,rfl,w',rfl,g,by omega,by omega,trivial,?_⟩
 refine⟨_,rfl,w',rfl,F,h8,λp hp odd=>⟨trivial,?_⟩,λc C=>⟨trivial,?_⟩⟩
 ·have no:¬∃c,jQ w' c:=λ⟨c,C⟩=>by
   have:=C.TL g F.tri hp
   omega
  have e0:ev (qR (row w') w'.length) ((3:Nat):Int)=0:=by rw[sW];exact congrArg Int.ofNat (Io g no)
  refine⟨_,rfl,w',3,rfl,by omega,by omega,⟨by decide,by decide⟩,trivial,?_⟩
  refine fe [some (.mm ns),some (ay w'),some (.dA w'),some (.tup [.str "wheel",af p,ar (row w' p)]),some (.int 0)] (by rw[<-e0];rfl) ?_
  refine⟨_,rfl,_,rfl,?_⟩;refine O2 ⟨_,rfl,AM (by decide+kernel) ?_⟩
  refine⟨_,rfl,_,rfl,?_⟩;refine O2 ⟨true,congrArg D.bl (decide_eq_true rfl),dr ?_⟩;refine⟨_,rfl,wG ⟨true,congrArg D.bl (decide_eq_true rfl),dr ?_⟩⟩;exact⟨_,rfl,_,rfl,_,rfl,_,rfl,_,rfl,w',p,rfl,F,h8,hp,odd,q⟩
 ·have e6:ev (qR (row w') w'.length) ((3:Nat):Int)=6:=by rw[sW];exact congrArg Int.ofNat (F0 F ⟨c,C⟩)
  refine⟨_,rfl,w',3,rfl,by omega,by omega,⟨by decide,by decide⟩,trivial,?_⟩
  refine fe [some (.mm ns),some (ay w'),some (.dA w'),some (.tup [.str "dyed",ar ((List.range w'.length).map c)]),some (.int 6)] (by rw[<-e6];rfl) ?_
  refine⟨_,rfl,_,rfl,?_⟩;refine O2 ⟨true,congrArg D.bl (decide_eq_true rfl),dr ?_⟩;refine⟨_,rfl,wG ⟨true,congrArg D.bl (decide_eq_true rfl),dr ?_⟩⟩;refine⟨_,rfl,by show 3<=sizeLine;decide,by show 1<=sizeLine;decide,_,rfl,?_⟩
  dsimp only[cZ,eY,ay];refine⟨by omega,by omega,small (by show 1*_<=1000;omega),?_⟩
  refine⟨_,rfl,_,rfl,w',c,?_,g,h8,C,q⟩;rw[Bh,show(((w'.map ar).length:Int)).toNat=w'.length by omega]
  rfl
theorem all_mk{l:PySem.W.OpenLaw}{w:World}{K:PySem.W.Frag}{h:Heap}{mg:Str->Option Value}{fa C:Addr}{Ys:Tok}{Yt:Tok}(X:K.In h)(G:h.Ns mainGlobals mg)(hfa:mg "law"=some (.ref fa)){Yu:Tok}
  {d0:Addr} {od0 Ze:Option Addr} {sl0:Array (Option Value)} {oc0 kV0 dc0 pm0 RP ZU:Value}
  {d1:Addr} {od1 Zf:Option Addr} {sl1:Array (Option Value)} {oc1 kV1 dc1 IY RQ ZV:Value}
  {d2:Addr} {od2 Zg:Option Addr} {vQ:Array (Option Value)} {oc2 kV2 dc2 LU RS ZW:Value}
  {d3:Addr} {od3 Zh:Option Addr} {sl3:Array (Option Value)} {oc3 kV3 dc3 pm3 RT ZX:Value}
  {d4:Addr} {od4 Zi:Option Addr} {sl4:Array (Option Value)} {oc4 kV4 dc4 pm4 RU ZY:Value}
  {d5:Addr} {od5 Zj:Option Addr} {sl5:Array (Option Value)} {oc5 kV5 dc5 pm5 RV ZZ:Value}
  {d6:Addr} {od6 Zk:Option Addr} {sl6:Array (Option Value)} {oc6 kV6 dc6 pm6 RW Z0:Value}
  {d7:Addr} {od7 Zl:Option Addr} {sl7:Array (Option Value)} {oc7 kV7 dc7 pm7 RX Z1:Value}
  {d8:Addr} {od8 Zm:Option Addr} {sl8:Array (Option Value)} {oc8 kV8 dc8 pm8 RY Z2:Value}
  {d9:Addr} {od9 Zn:Option Addr} {sl9:Array (Option Value)} {oc9 kV9 dc9 pm9 RZ Z3:Value}
  {Oa:Addr} {Wl Rh:Option Addr} {XE:Array (Option Value)} {VS Vc SS WX MH R4:Value}
  {Ob:Addr} {Wm Ri:Option Addr} {XF:Array (Option Value)} {VT Vd SU WY MI R5:Value}
  {Oc:Addr} {Wn Rj:Option Addr} {XG:Array (Option Value)} {VU Ve SV WZ MJ R6:Value}
  {Od:Addr} {Wo Rk:Option Addr} {XH:Array (Option Value)} {VV Vf SW W0 MK R7:Value}
  {Oe:Addr} {Wq Rl:Option Addr} {XI:Array (Option Value)} {VW Vg SX W2 ML R8:Value}
  {Of:Addr} {Wr Rm:Option Addr} {XJ:Array (Option Value)} {VX Vh SY W3 MM R9:Value}
  {Og:Addr} {Wt Ro:Option Addr} {XM:Array (Option Value)} {VY Vi S0 W4 MN Sa:Value}
  {Oh:Addr} {Wu Rp:Option Addr} {XO:Array (Option Value)} {VZ Vj S5 W5 MO Sb:Value}
  {Oi:Addr} {Wv Rq:Option Addr} {XQ:Array (Option Value)} {V0 Vk S6 W6 MP Sd:Value}
  {Oj:Addr} {Ww Rt:Option Addr} {XR:Array (Option Value)} {V1 Vl S7 W7 MQ Se:Value}
  {Ol:Addr} {Wx Ru:Option Addr} {XS:Array (Option Value)} {V2 Vm S8 W8 MR Sf:Value}
  {Om:Addr} {Wz Rv:Option Addr} {XT:Array (Option Value)} {V3 Vn S9 W9 MS Sg:Value}
  {Oo:Addr} {WA Rw:Option Addr} {XU:Array (Option Value)} {V4 Vo Ta Xa MT Sh:Value}
  {Oq:Addr} {WB Rx:Option Addr} {XW:Array (Option Value)} {V5 Vp Tb Xb MU Si:Value}
  {Ot:Addr} {WC Ry:Option Addr} {XX:Array (Option Value)} {V6 Vq Tc Xc MV Sj:Value}
  {Ou:Addr} {WD Rz:Option Addr} {XY:Array (Option Value)} {V7 Vr Td Xd MW Sk:Value}
  {Ov:Addr} {WE RA:Option Addr} {XZ:Array (Option Value)} {V8 Vs Te Xe MX Sl:Value}
  {Ow:Addr} {WG RB:Option Addr} {X0:Array (Option Value)} {V9 Vt Tf Xf MY Sm:Value}
  {Ox:Addr} {WH RC:Option Addr} {X1:Array (Option Value)} {Wa Vu Tg Xg MZ Sn:Value}
  {Oy:Addr} {WI RD:Option Addr} {X2:Array (Option Value)} {Wc Vv Th Xh M1 So:Value}
  {Oz:Addr} {WJ RE:Option Addr} {X3:Array (Option Value)} {Wd Vw Ti Xi M3 Sq:Value}
  {OA:Addr} {WK RF:Option Addr} {X4:Array (Option Value)} {We Vx Tj Xj M4 Sr:Value}
  {OB:Addr} {WL RG:Option Addr} {X5:Array (Option Value)} {Wf Vy To Xk M5 Ss:Value}
  {OC:Addr} {WM RH:Option Addr} {X6:Array (Option Value)} {Wg Vz Tp Xl M6 Su:Value}
  {OD:Addr} {WN RJ:Option Addr} {X7:Array (Option Value)} {Wh VA Tq Xm M7 Sv:Value}
  {OE:Addr} {WO RK:Option Addr} {X8:Array (Option Value)} {Wi VB Tr Xn M8 Sw:Value}
  {OF:Addr} {WQ RL:Option Addr} {X9:Array (Option Value)} {Wj VC Ts Xo M9 Sx:Value}
  {i0:Addr} {jd0 jn0:Option Addr} {js0:Array (Option Value)} {jc0 jk0 jo0 jp0 U6 jt0:Value}
  {i1:Addr} {jd1 jn1:Option Addr} {js1:Array (Option Value)} {jc1 jk1 jo1 jp1 U7 jt1:Value}
  {i2:Addr} {jd2 jn2:Option Addr} {js2:Array (Option Value)} {jc2 jk2 jo2 jp2 U8 jt2:Value}
  {i3:Addr} {jd3 jn3:Option Addr} {js3:Array (Option Value)} {jc3 jk3 jo3 jp3 U9 jt3:Value}
  {i4:Addr} {jd4 jn4:Option Addr} {js4:Array (Option Value)} {jc4 jk4 jo4 jp4 Va jt4:Value}
  {i5:Addr} {jd5 jn5:Option Addr} {js5:Array (Option Value)} {jc5 jk5 jo5 jp5 Vb jt5:Value}
  (gC:PySem.W.nsIn K mainGlobals "Web"=some (some (.ref C)))
  (a0:eX K "round_from" d0)
  (l0:df K "round_from" "round_from" j7 d0 od0 Ze sl0 oc0 kV0 dc0 pm0 RP ZU)
  (c0:PySem.W.codeIn K RP "round_from"=true)
  (k0:PySem.W.keepIn K (.ref d0)=true)
  (a1:eX K "lands" d1)
  (l1:df K "lands" "lands" mW d1 od1 Zf sl1 oc1 kV1 dc1 IY RQ ZV)
  (c1:PySem.W.codeIn K RQ "lands"=true)
  (k1:PySem.W.keepIn K (.ref d1)=true)
  (a2:eX K "count" d2)
  (l2:df K "count" "count" vP d2 od2 Zg vQ oc2 kV2 dc2 LU RS ZW)
  (c2:PySem.W.codeIn K RS "count"=true)
  (k2:PySem.W.keepIn K (.ref d2)=true)
  (a3:eX K "is_plane" d3)
  (l3:df K "is_plane" "is_plane" mV d3 od3 Zh sl3 oc3 kV3 dc3 pm3 RT ZX)
  (c3:PySem.W.codeIn K RT "is_plane"=true)
  (k3:PySem.W.keepIn K (.ref d3)=true)
  (a4:eX K "need_plane" d4)
  (l4:df K "need_plane" "need_plane" j6 d4 od4 Zi sl4 oc4 kV4 dc4 pm4 RU ZY)
  (c4:PySem.W.codeIn K RU "need_plane"=true)
  (k4:PySem.W.keepIn K (.ref d4)=true)
  (a5:eX K "need_filled" d5)
  (l5:df K "need_filled" "need_filled" jt d5 od5 Zj sl5 oc5 kV5 dc5 pm5 RV ZZ)
  (c5:PySem.W.codeIn K RV "need_filled"=true)
  (k5:PySem.W.keepIn K (.ref d5)=true)
  (a6:eX K "third_dyed" d6)
  (l6:df K "third_dyed" "third_dyed" fR d6 od6 Zk sl6 oc6 kV6 dc6 pm6 RW Z0)
  (c6:PySem.W.codeIn K RW "third_dyed"=true)
  (k6:PySem.W.keepIn K (.ref d6)=true)
  (a7:eX K "dyed_by_lands" d7)
  (l7:df K "dyed_by_lands" "dyed_by_lands" fH d7 od7 Zl sl7 oc7 kV7 dc7 pm7 RX Z1)
  (c7:PySem.W.codeIn K RX "dyed_by_lands"=true)
  (k7:PySem.W.keepIn K (.ref d7)=true)
  (a8:eX K "three_dyes" d8)
  (l8:df K "three_dyes" "three_dyes" j9 d8 od8 Zm sl8 oc8 kV8 dc8 pm8 RY Z2)
  (c8:PySem.W.codeIn K RY "three_dyes"=true)
  (k8:PySem.W.keepIn K (.ref d8)=true)
  (a9:eX K "is_among" d9)
  (l9:df K "is_among" "is_among" mU d9 od9 Zn sl9 oc9 kV9 dc9 pm9 RZ Z3)
  (c9:PySem.W.codeIn K RZ "is_among"=true)
  (k9:PySem.W.keepIn K (.ref d9)=true)
  (YN:eX K "alien_fault" Oa)
  (l10:df K "alien_fault" "alien_fault" jq Oa Wl Rh XE VS Vc SS WX MH R4)
  (Zp:PySem.W.codeIn K MH "alien_fault"=true)
  (k10:PySem.W.keepIn K (.ref Oa)=true)
  (YO:eX K "self_fault" Ob)
  (l11:df K "self_fault" "self_fault" j8 Ob Wm Ri XF VT Vd SU WY MI R5)
  (Zq:PySem.W.codeIn K MI "self_fault"=true)
  (k11:PySem.W.keepIn K (.ref Ob)=true)
  (YQ:eX K "twice_fault" Oc)
  (l12:df K "twice_fault" "twice_fault" ju Oc Wn Rj XG VU Ve SV WZ MJ R6)
  (Zr:PySem.W.codeIn K MJ "twice_fault"=true)
  (k12:PySem.W.keepIn K (.ref Oc)=true)
  (YR:eX K "lone_fault" Od)
  (l13:df K "lone_fault" "lone_fault" j5 Od Wo Rk XH VV Vf SW W0 MK R7)
  (Zs:PySem.W.codeIn K MK "lone_fault"=true)
  (k13:PySem.W.keepIn K (.ref Od)=true)
  (YS:eX K "reached_from_first" Oe)
  (Fs:df K "reached_from_first" "reached_from_first" cX Oe Wq Rl XI VW Vg SX W2 ML R8)
  (Zt:PySem.W.codeIn K ML "reached_from_first"=true)
  (k14:PySem.W.keepIn K (.ref Oe)=true)
  (YT:eX K "apart_fault" Of)
  (l15:df K "apart_fault" "apart_fault" jr Of Wr Rm XJ VX Vh SY W3 MM R9)
  (Zu:PySem.W.codeIn K MM "apart_fault"=true)
  (k15:PySem.W.keepIn K (.ref Of)=true)
  (YU:eX K "first_fault" Og)
  (l16:df K "first_fault" "first_fault" js Og Wt Ro XM VY Vi S0 W4 MN Sa)
  (Zv:PySem.W.codeIn K MN "first_fault"=true)
  (k16:PySem.W.keepIn K (.ref Og)=true)
  (YV:eX K "need_at_most" Oh)
  (l17:df K "need_at_most" "need_at_most" iz Oh Wu Rp XO VZ Vj S5 W5 MO Sb)
  (Zw:PySem.W.codeIn K MO "need_at_most"=true)
  (k17:PySem.W.keepIn K (.ref Oh)=true)
  (YW:eX K "parts_with" Oi)
  (l18:df K "parts_with" "parts_with" gZ Oi Wv Rq XQ V0 Vk S6 W6 MP Sd)
  (Zx:PySem.W.codeIn K MP "parts_with"=true)
  (k18:PySem.W.keepIn K (.ref Oi)=true)
  (YX:eX K "counted_by_parts" Oj)
  (l19:df K "counted_by_parts" "counted_by_parts" cF Oj Ww Rt XR V1 Vl S7 W7 MQ Se)
  (Zy:PySem.W.codeIn K MQ "counted_by_parts"=true)
  (k19:PySem.W.keepIn K (.ref Oj)=true)
  (YY:eX K "ways" Ol)
  (l20:df K "ways" "ways" qH Ol Wx Ru XS V2 Vm S8 W8 MR Sf)
  (Zz:PySem.W.codeIn K MR "ways"=true)
  (k20:PySem.W.keepIn K (.ref Ol)=true)
  (YZ:eX K "ways_by" Om)
  (l21:df K "ways_by" "ways_by" pG Om Wz Rv XT V3 Vn S9 W9 MS Sg)
  (ZA:PySem.W.codeIn K MS "ways_by"=true)
  (k21:PySem.W.keepIn K (.ref Om)=true)
  (Y0:eX K "_law_cell_at" Oo)
  (l22:df K "_law_cell_at" "_law_cell_at" iy Oo WA Rw XU V4 Vo Ta Xa MT Sh)
  (ZC:PySem.W.codeIn K MT "_law_cell_at"=true)
  (k22:PySem.W.keepIn K (.ref Oo)=true)
  (Y1:eX K "_law_drawn" Oq)
  (l23:df K "_law_drawn" "_law_drawn" j1 Oq WB Rx XW V5 Vp Tb Xb MU Si)
  (ZD:PySem.W.codeIn K MU "_law_drawn"=true)
  (k23:PySem.W.keepIn K (.ref Oq)=true)
  (Y2:eX K "_law_grown" Ot)
  (l24:df K "_law_grown" "_law_grown" j2 Ot WC Ry XX V6 Vq Tc Xc MV Sj)
  (ZE:PySem.W.codeIn K MV "_law_grown"=true)
  (k24:PySem.W.keepIn K (.ref Ot)=true)
  (Y3:eX K "_law_closed" Ou)
  (l25:df K "_law_closed" "_law_closed" jn Ou WD Rz XY V7 Vr Td Xd MW Sk)
  (ZF:PySem.W.codeIn K MW "_law_closed"=true)
  (k25:PySem.W.keepIn K (.ref Ou)=true)
  (Y4:eX K "_law_after" Ov)
  (l26:df K "_law_after" "_law_after" j0 Ov WE RA XZ V8 Vs Te Xe MX Sl)
  (ZG:PySem.W.codeIn K MX "_law_after"=true)
  (k26:PySem.W.keepIn K (.ref Ov)=true)
  (Y5:eX K "_law_behind" Ow)
  (l27:df K "_law_behind" "_law_behind" jm Ow WG RB X0 V9 Vt Tf Xf MY Sm)
  (ZH:PySem.W.codeIn K MY "_law_behind"=true)
  (k27:PySem.W.keepIn K (.ref Ow)=true)
  (Y6:eX K "_law_eight_faced" Ox)
  (l28:df K "_law_eight_faced" "_law_eight_faced" fM Ox WH RC X1 Wa Vu Tg Xg MZ Sn)
  (ZI:PySem.W.codeIn K MZ "_law_eight_faced"=true)
  (k28:PySem.W.keepIn K (.ref Ox)=true)
  (Y7:eX K "_law_split" Oy)
  (l29:df K "_law_split" "_law_split" j3 Oy WI RD X2 Wc Vv Th Xh M1 So)
  (ZJ:PySem.W.codeIn K M1 "_law_split"=true)
  (k29:PySem.W.keepIn K (.ref Oy)=true)
  (Y8:eX K "_law_even" Oz)
  (l30:df K "_law_even" "_law_even" lD Oz WJ RE X3 Wd Vw Ti Xi M3 Sq)
  (ZK:PySem.W.codeIn K M3 "_law_even"=true)
  (k30:PySem.W.keepIn K (.ref Oz)=true)
  (Y9:eX K "_law_named" OA)
  (l31:df K "_law_named" "_law_named" fQ OA WK RF X4 We Vx Tj Xj M4 Sr)
  (ZL:PySem.W.codeIn K M4 "_law_named"=true)
  (k31:PySem.W.keepIn K (.ref OA)=true)
  (Za:eX K "_law_web" OB)
  (l32:df K "_law_web" "_law_web" jK OB WL RG X5 Wf Vy To Xk M5 Ss)
  (ZM:PySem.W.codeIn K M5 "_law_web"=true)
  (k32:PySem.W.keepIn K (.ref OB)=true)
  (Zb:eX K "_law_dyed" OC)
  (l33:df K "_law_dyed" "_law_dyed" iR OC WM RH X6 Wg Vz Tp Xl M6 Su)
  (ZO:PySem.W.codeIn K M6 "_law_dyed"=true)
  (k33:PySem.W.keepIn K (.ref OC)=true)
  (Zc:eX K "_law_filled" OD)
  (l34:df K "_law_filled" "_law_filled" jo OD WN RJ X7 Wh VA Tq Xm M7 Sv)
  (ZP:PySem.W.codeIn K M7 "_law_filled"=true)
  (k34:PySem.W.keepIn K (.ref OD)=true)
  (Zd:eX K "_law_wheel" OE)
  (l35:df K "_law_wheel" "_law_wheel" j4 OE WO RK X8 Wi VB Tr Xn M8 Sw)
  (ZQ:PySem.W.codeIn K M8 "_law_wheel"=true)
  (k35:PySem.W.keepIn K (.ref OE)=true)
  (Rc:eX K "law" OF)
  (l36:df K "law" "law" De OF WQ RL X9 Wj VC Ts Xo M9 Sx)
  (ZR:PySem.W.codeIn K M9 "law"=true)
  (k36:PySem.W.keepIn K (.ref OF)=true)
  (m0:PySem.W.findIn K (.ref C) "__init__"=some (some (.ref i0)))
  (f0:PySem.W.isFn K (.ref i0)=true)
  (ml0:df K "__init__" "Web.__init__" e8 i0 jd0 jn0 js0 jc0 jk0 jo0 jp0 U6 jt0)
  (mc0:PySem.W.codeIn K U6 "Web.__init__"=true)
  (mk0:PySem.W.keepIn K (.ref i0)=true)
  (m1:PySem.W.findIn K (.ref C) "many"=some (some (.ref i1)))
  (f1:PySem.W.isFn K (.ref i1)=true)
  (ml1:df K "many" "Web.many" mT i1 jd1 jn1 js1 jc1 jk1 jo1 jp1 U7 jt1)
  (mc1:PySem.W.codeIn K U7 "Web.many"=true)
  (mk1:PySem.W.keepIn K (.ref i1)=true)
  (m2:PySem.W.findIn K (.ref C) "turns"=some (some (.ref i2)))
  (f2:PySem.W.isFn K (.ref i2)=true)
  (ml2:df K "turns" "Web.turns" iQ i2 jd2 jn2 js2 jc2 jk2 jo2 jp2 U8 jt2)
  (mc2:PySem.W.codeIn K U8 "Web.turns"=true)
  (mk2:PySem.W.keepIn K (.ref i2)=true)
  (m3:PySem.W.findIn K (.ref C) "ties"=some (some (.ref i3)))
  (f3:PySem.W.isFn K (.ref i3)=true)
  (ml3:df K "ties" "Web.ties" jJ i3 jd3 jn3 js3 jc3 jk3 jo3 jp3 U9 jt3)
  (mc3:PySem.W.codeIn K U9 "Web.ties"=true)
  (mk3:PySem.W.keepIn K (.ref i3)=true)
  (m4:PySem.W.findIn K (.ref C) "tied"=some (some (.ref i4)))
  (f4:PySem.W.isFn K (.ref i4)=true)
  (ml4:df K "tied" "Web.tied" sP i4 jd4 jn4 js4 jc4 jk4 jo4 jp4 Va jt4)
  (mc4:PySem.W.codeIn K Va "Web.tied"=true)
  (mk4:PySem.W.keepIn K (.ref i4)=true)
  (m5:PySem.W.findIn K (.ref C) "behind"=some (some (.ref i5)))
  (f5:PySem.W.isFn K (.ref i5)=true)
  (ml5:df K "behind" "Web.behind" jZ i5 jd5 jn5 js5 jc5 jk5 jo5 jp5 Vb jt5)
  (mc5:PySem.W.codeIn K Vb "Web.behind"=true)
  (mk5:PySem.W.keepIn K (.ref i5)=true)
  (pgC:PySem.W.plainGet K C Str.empty=true)
  (Ci:PySem.W.hasDictIn K C=true)
  (poC:PySem.W.plainOver K C=true)
  (saC:PySem.W.findIn K (.ref C) "__setattr__"=some (some (.builtin "object.__setattr__")))
  (mkC:PySem.W.makesIn K C=true)
  (kpC:PySem.W.keepIn K (.ref C)=true)
  (nR:PySem.W.findIn K (.ref C) "rows"=some none)
  (R3:PySem.W.nsIn K mainGlobals "__name__"=some (some (.str "law_mapdye_k93_whole_three_dyes_counted" Yu)))
  (ZS:PySem.W.nsIn K mainGlobals "MOST_POINTS"=some (some (.int 14 Ys)))
  (ZT:PySem.W.nsIn K mainGlobals "MOST_COUNTED"=some (some (.int 8 Yt)))
  (YB:PySem.W.nsIn K mainGlobals "len"=some none)
  (Mx:PySem.W.nsIn K mainGlobals "range"=some none)
  (YC:PySem.W.nsIn K mainGlobals "max"=some none)
  (YD:PySem.W.nsIn K mainGlobals "min"=some none)
  (BF:PySem.W.nsIn K mainGlobals "enumerate"=some none)
  (YG:PySem.W.nsIn K mainGlobals "zip"=some none)
  (J4:PySem.W.nsIn K mainGlobals "sorted"=some none)
  (Yz:PySem.W.nsIn K mainGlobals "all"=some none)
  (zN:PySem.W.nsIn K mainGlobals "isinstance"=some none)
  (YA:PySem.W.nsIn K mainGlobals "int"=some none)
  (QU:PySem.W.nsIn K mainGlobals "bool"=some none)
  (QV:PySem.W.nsIn K mainGlobals "list"=some none)
  (My:PySem.W.nsIn K mainGlobals "tuple"=some none)
  (YF:PySem.W.nsIn K mainGlobals "sum"=some none)
  (DM:PySem.W.nsIn K mainGlobals "reversed"=some none)
  (YE:PySem.W.nsIn K mainGlobals "set"=some none)
  :∃fd:FuncData,(∀(s:Shared)(v:Value),BindsTo s fd ⟨[v],[]⟩ [("_law_script",v)])/\∀base:Heap,K.In base->base.Ns mainGlobals mg->FnOk l.prog w K mg base bQ 40 fa fd ["_law_script"] (L2.qO K):=by
 have e:=hfa.symm.trans (PySem.W.mg_of X G Rc);cases e;have E0:=qi (st:=e8) ml0 mc0 mk0;have e0:=E0.binds (ps:= ["self","turns"]) (λ_ _ _ _ _ _ _ hl=>by obtain⟨_,_,rfl⟩:=L2.jF hl;rfl)
 let Z:DC:=⟨K,C⟩
 let T:Txt Z mg:=⟨⟨PySem.W.mg_none_of X G YB,PySem.W.mg_none_of X G Mx,PySem.W.mg_none_of X G YC,PySem.W.mg_none_of X G YD,PySem.W.mg_none_of X G BF,PySem.W.mg_none_of X G YG,PySem.W.mg_none_of X G J4,PySem.W.mg_none_of X G Yz,PySem.W.mg_none_of X G zN,PySem.W.mg_none_of X G YA,PySem.W.mg_none_of X G QU,PySem.W.mg_none_of X G QV,PySem.W.mg_none_of X G My,PySem.W.mg_none_of X G YF,PySem.W.mg_none_of X G DM⟩,PySem.W.mg_none_of X G YE, .of X G a0 l0 c0 k0 (λ_ _ _ _ _ _ _ hl=>by obtain⟨_,_,rfl⟩:=L2.jF hl;rfl), .of X G a1 l1 c1 k1 (λ_ _ _ _ _ _ _ hl=>by obtain⟨_,rfl⟩:=L2.ft hl;rfl), .of X G a2 l2 c2 k2 (λ_ _ _ _ _ _ _ hl=>by obtain⟨_,rfl⟩:=L2.ft hl;rfl), .of X G a3 l3 c3 k3 (λ_ _ _ _ _ _ _ hl=>by obtain⟨_,rfl⟩:=L2.ft hl;rfl), .of X G a4 l4 c4 k4 (λ_ _ _ _ _ _ _ hl=>by obtain⟨_,rfl⟩:=L2.ft hl;rfl), .of X G a5 l5 c5 k5 (λ_ _ _ _ _ _ _ hl=>by obtain⟨_,_,rfl⟩:=L2.jF hl;rfl), .of X G a6 l6 c6 k6 (λ_ _ _ _ _ _ _ hl=>by obtain⟨_,_,rfl⟩:=L2.jF hl;rfl), .of X G a7 l7 c7 k7 (λ_ _ _ _ _ _ _ hl=>by obtain⟨_,rfl⟩:=L2.ft hl;rfl), .of X G a8 l8 c8 k8 (λ_ _ _ _ _ _ _ hl=>by obtain⟨_,rfl⟩:=L2.ft hl;rfl), .of X G a9 l9 c9 k9 (λ_ _ _ _ _ _ _ hl=>by obtain⟨_,_,rfl⟩:=L2.jF hl;rfl), .of X G YN l10 Zp k10 (λ_ _ _ _ _ _ _ hl=>by obtain⟨_,rfl⟩:=L2.ft hl;rfl), .of X G YO l11 Zq k11 (λ_ _ _ _ _ _ _ hl=>by obtain⟨_,rfl⟩:=L2.ft hl;rfl), .of X G YQ l12 Zr k12 (λ_ _ _ _ _ _ _ hl=>by obtain⟨_,rfl⟩:=L2.ft hl;rfl), .of X G YR l13 Zs k13 (λ_ _ _ _ _ _ _ hl=>by obtain⟨_,rfl⟩:=L2.ft hl;rfl), .of X G YS Fs Zt k14 (λ_ _ _ _ _ _ _ hl=>by obtain⟨_,rfl⟩:=L2.ft hl;rfl), .of X G YT l15 Zu k15 (λ_ _ _ _ _ _ _ hl=>by obtain⟨_,rfl⟩:=L2.ft hl;rfl), .of X G YU l16 Zv k16 (λ_ _ _ _ _ _ _ hl=>by obtain⟨_,rfl⟩:=L2.ft hl;rfl), .of X G YV l17 Zw k17 (λ_ _ _ _ _ _ _ hl=>by obtain⟨_,_,rfl⟩:=L2.jF hl;rfl), .of X G YW l18 Zx k18 (λ_ _ _ _ _ _ _ hl=>by obtain⟨_,_,_,rfl⟩:=L2.sL hl;rfl), .of X G YX l19 Zy k19 (λ_ _ _ _ _ _ _ hl=>by obtain⟨_,rfl⟩:=L2.ft hl;rfl), .of X G YY l20 Zz k20 (λ_ _ _ _ _ _ _ hl=>by obtain⟨_,rfl⟩:=L2.ft hl;rfl), .of X G YZ l21 ZA k21 (λ_ _ _ _ _ _ _ hl=>by obtain⟨_,_,rfl⟩:=L2.jF hl;rfl), .of X G Y0 l22 ZC k22 (λ_ _ _ _ _ _ _ hl=>by obtain⟨_,_,rfl⟩:=L2.jF hl;rfl), .of X G Y1 l23 ZD k23 (λ_ _ _ _ _ _ _ hl=>by obtain⟨_,rfl⟩:=L2.ft hl;rfl), .of X G Y2 l24 ZE k24 (λ_ _ _ _ _ _ _ hl=>by obtain⟨_,_,rfl⟩:=L2.jF hl;rfl), .of X G Y3 l25 ZF k25 (λ_ _ _ _ _ _ _ hl=>by obtain⟨_,_,rfl⟩:=L2.jF hl;rfl), .of X G Y4 l26 ZG k26 (λ_ _ _ _ _ _ _ hl=>by obtain⟨_,_,_,rfl⟩:=L2.sL hl;rfl), .of X G Y5 l27 ZH k27 (λ_ _ _ _ _ _ _ hl=>by obtain⟨_,_,rfl⟩:=L2.jF hl;rfl), .of X G Y6 l28 ZI k28 (λ_ _ _ _ _ _ _ hl=>by obtain⟨_,_,_,rfl⟩:=L2.sL hl;rfl), .of X G Y7 l29 ZJ k29 (λ_ _ _ _ _ _ _ hl=>by obtain⟨_,_,_,rfl⟩:=L2.sL hl;rfl), .of X G Y8 l30 ZK k30 (λ_ _ _ _ _ _ _ hl=>by obtain⟨_,_,rfl⟩:=L2.jF hl;rfl), .of X G Y9 l31 ZL k31 (λ_ _ _ _ _ _ _ hl=>by obtain⟨_,_,rfl⟩:=L2.jF hl;rfl), .of X G Za l32 ZM k32 (λ_ _ _ _ _ _ _ hl=>by obtain⟨_,rfl⟩:=L2.ft hl;rfl), .of X G Zb l33 ZO k33 (λ_ _ _ _ _ _ _ hl=>by obtain⟨_,_,_,rfl⟩:=L2.sL hl;rfl), .of X G Zc l34 ZP k34 (λ_ _ _ _ _ _ _ hl=>by obtain⟨_,rfl⟩:=L2.ft hl;rfl), .of X G Zd l35 ZQ k35 (λ_ _ _ _ _ _ _ hl=>by obtain⟨_,_,_,rfl⟩:=L2.sL hl;rfl), .of X G Rc l36 ZR k36 (λ_ _ _ _ _ _ _ hl=>by obtain⟨_,rfl⟩:=L2.ft hl;rfl),⟨⟨pgC,Ci,poC,saC⟩,nR⟩,PySem.W.mg_of X G gC,i0,_,E0,⟨mkC,m0,f0,kpC⟩,e0, .of m1 f1 ml1 mc1 mk1 (λ_ _ _ _ _ _ _ hl=>by obtain⟨_,rfl⟩:=L2.ft hl;rfl), .of m2 f2 ml2 mc2 mk2 (λ_ _ _ _ _ _ _ hl=>by obtain⟨_,rfl⟩:=L2.ft hl;rfl), .of m3 f3 ml3 mc3 mk3 (λ_ _ _ _ _ _ _ hl=>by obtain⟨_,rfl⟩:=L2.ft hl;rfl), .of m4 f4 ml4 mc4 mk4 (λ_ _ _ _ _ _ _ hl=>by obtain⟨_,_,_,rfl⟩:=L2.sL hl;rfl), .of m5 f5 ml5 mc5 mk5 (λ_ _ _ _ _ _ _ hl=>by obtain⟨_,_,_,rfl⟩:=L2.sL hl;rfl),⟨Yu,PySem.W.mg_of X G R3⟩,⟨Ys,PySem.W.mg_of X G ZS⟩,⟨Yt,PySem.W.mg_of X G ZT⟩⟩
 exact⟨_,λs v=> .of_eq rfl,λbase _ _=>(((Ls (P:=l.prog) (w:=w) (base:=base) T).mono (by decide)).imp (L2.Lg (Z:=Z)))⟩
theorem walk{l:PySem.W.OpenLaw}{q:Program}{loose:List Str}{XP:(Str->Option Value)->Heap->Prop}{YP:World->Heap->Prop}{d:DefRec}{K:Params->PySem.W.Frag}(hn:l.most=some 63)(Cj:d.params.defaults= [])
  (hY:∀(w:World)(h:Heap),YP w h->(K w.params).In h)
  (F:∀(w:World)(mg:Str->Option Value)(fa:Addr)(h:Heap),(K w.params).In h->h.Ns mainGlobals mg->mg d.name=some (.ref fa)->
   ∃fd:FuncData,(∀(s:Shared)(u:Value),BindsTo s fd ⟨[u],[]⟩ [("_law_script",u)])/\∀base:Heap,(K w.params).In base->base.Ns mainGlobals mg->FnOk l.prog w (K w.params) mg base bQ 40 fa fd ["_law_script"] (qO (K w.params))):
  PySem.W.WalkO q loose XP YP l.row.toRowW d [] (λf vs=>PySem.call f vs):=L2.QO 40 (by decide) hn Cj hY F
end uf
def PySem.W.Fast.tw15537447327423471781:Nat:=0
def PySem.W.Fast.tw17997541826281345839:Nat:=0
def PySem.W.Fast.tw12547055840413040720:Nat:=0
def PySem.W.Fast.tw5285948571395324138:Nat:=0
def PySem.W.Fast.tw7250555529497688552:Nat:=0
def PySem.W.Fast.tw16901321172634009929:Nat:=0
def PySem.W.Fast.tw5708576143769740796:Nat:=0
def PySem.W.Fast.tw15596288180619463268:Nat:=0
def PySem.W.Fast.tw393096256690011675:Nat:=0
def PySem.W.Fast.tw5928343353021835600:Nat:=0
def PySem.W.Fast.tw11565793559653177126:Nat:=0
def PySem.W.Fast.tw12135059357134692130:Nat:=0
def PySem.W.Fast.tw13399903105718263054:Nat:=0
def PySem.W.Fast.tw6411071219344154941:Nat:=0
def PySem.W.Fast.tw7264815661954781405:Nat:=0
def PySem.W.Fast.tw556117654581542215:Nat:=0
def PySem.W.Fast.tw6232424687909899981:Nat:=0
def PySem.W.Fast.tw9869029449537086000:Nat:=0
def PySem.W.Fast.tw2165248758003953675:Nat:=0
def PySem.W.Fast.tw10170790065913579132:Nat:=0
def PySem.W.Fast.tw8758098866413930979:Nat:=0
def PySem.W.Fast.tw15644167712466440319:Nat:=0
def PySem.W.Fast.tw13283909593078839756:Nat:=0
def PySem.W.Fast.tw8826366288800464387:Nat:=0
def PySem.W.Fast.tw16273203762509997384:Nat:=0
def PySem.W.Fast.tw7377085931812260340:Nat:=0
def PySem.W.Fast.tw3272362104056708078:Nat:=0
def PySem.W.Fast.tw14820805980031330992:Nat:=0
def PySem.W.Fast.tw14022981438781821374:Nat:=0
def PySem.W.Fast.tw10320518721997491559:Nat:=0
def PySem.W.Fast.tw12963121891410756819:Nat:=0
def PySem.W.Fast.tw5397440776228809908:Nat:=0
def PySem.W.Fast.tw2955521463658259660:Nat:=0
def PySem.W.Fast.tw15624547044250865165:Nat:=0
def PySem.W.Fast.tw12102308107692259269:Nat:=0
def PySem.W.Fast.tw11595027689672570837:Nat:=0
def PySem.W.Fast.tw14601190876762526624:Nat:=0
def PySem.W.Fast.tw11010764649572575283:Nat:=0
def PySem.W.Fast.tw3336819238656668445:Nat:=0
def PySem.W.Fast.tw6596237505060790396:Nat:=0
def PySem.W.Fast.tw5106497886933362793:Nat:=0
def PySem.W.Fast.tw10443193478775951459:Nat:=0
def PySem.W.Fast.tw11677167194280550119:Nat:=0
def PySem.W.Fast.tw10054297038464379786:Nat:=0
def PySem.W.Fast.tw18412206581985785221:Nat:=0
def PySem.W.Fast.tw9840651644786602761:Nat:=0
def PySem.W.Fast.tw4574454178772479380:Nat:=0
def PySem.W.Fast.tw17222729212839741312:Nat:=0
def PySem.W.Fast.tw11789312790440397486:Nat:=0
def PySem.W.Fast.tw10914969536466655257:Nat:=0
def PySem.W.Fast.tw15860523968247648160:Nat:=0
def PySem.W.Fast.tw2684928563556995185:Nat:=0
def PySem.W.Fast.tw1697050674649557700:Nat:=0
def PySem.W.Fast.tw11568213486160832374:Nat:=0
def PySem.W.Fast.tw7073838752138906051:Nat:=0
def PySem.W.Fast.tw7140850465347940730:Nat:=0
def PySem.W.Fast.tw11466054915399244083:Nat:=0
def PySem.W.Fast.tw2885200614388030716:Nat:=0
def PySem.W.Fast.tw11888416063550233632:Nat:=0
def PySem.W.Fast.tw18172074900953102546:Nat:=0
def PySem.W.Fast.tw12635755592074098259:Nat:=0
def PySem.W.Fast.tw1518299234755036387:Nat:=0
def PySem.W.Fast.tw2660520886296937546:Nat:=0
def PySem.W.Fast.tw18416422489025830616:Nat:=0
def PySem.W.Fast.tw5283599480298344242:Nat:=0
def PySem.W.Fast.tw5830091193906583170:Nat:=0
def PySem.W.Fast.tw15526156477639040454:Nat:=0
def PySem.W.Fast.tw14898726413155595011:Nat:=0
def PySem.W.Fast.tw4808961986559493145:Nat:=0
def PySem.W.Fast.tw830253145255201106:Nat:=0
def PySem.W.Fast.tw2827638129756436752:Nat:=0
def PySem.W.Fast.tw4375082810997434492:Nat:=0
def PySem.W.Fast.tw6727879153839200159:Nat:=0
def PySem.W.Fast.tw1561903355921098905:Nat:=0
def PySem.W.Fast.tw15560126597592866675:Nat:=0
def PySem.W.Fast.tw373484782813307109:Nat:=0
def PySem.W.Fast.tw17649221012481075240:Nat:=0
def PySem.W.Fast.tw3719519402484262248:Nat:=0
def PySem.W.Fast.tw9343940196003049072:Nat:=0
def PySem.W.Fast.tw1450163631413151539:Nat:=0
def PySem.W.Fast.tw9424807340347450642:Nat:=0
def PySem.W.Fast.tw10957669183514267167:Nat:=0
def PySem.W.Fast.tw10642954037418393132:Nat:=0
def PySem.W.Fast.tw2463959923122833902:Nat:=0
def PySem.W.Fast.tw17736125218109892974:Nat:=0
def PySem.W.Fast.tw8383852413195189090:Nat:=0
def PySem.W.Fast.tw5593818361169027233:Nat:=0
def PySem.W.Fast.tw15105102369977582005:Nat:=0
def PySem.W.Fast.tw10259736159901672894:Nat:=0
def PySem.W.Fast.tw11526572697915602646:Nat:=0
def PySem.W.Fast.tw8898781771986645211:Nat:=0
def PySem.W.Fast.tw5169527334274330456:Nat:=0
def PySem.W.Fast.tw107644410880366575:Nat:=0
def PySem.W.Fast.tw17421598907772980820:Nat:=0
def PySem.W.Fast.tw7615881931794448149:Nat:=0
def PySem.W.Fast.tw8999844534227250608:Nat:=0
def PySem.W.Fast.tw18442584541908659573:Nat:=0
def PySem.W.Fast.tw13751334210737630017:Nat:=0
def PySem.W.Fast.tw10638767918711961990:Nat:=0
def PySem.W.Fast.tw3923618349909678597:Nat:=0
def PySem.W.Fast.tw1299852656659632564:Nat:=0
def PySem.W.Fast.tw2457931185999966711:Nat:=0
def PySem.W.Fast.tw15117268761745638758:Nat:=0
def PySem.W.Fast.tw685872201207949128:Nat:=0
def PySem.W.Fast.tw6830151306777335973:Nat:=0
def PySem.W.Fast.tw16855600081339937520:Nat:=0
def PySem.W.Fast.tw14847871915181482815:Nat:=0
def PySem.W.Fast.tw14966560235824929883:Nat:=0
def PySem.W.Fast.tw14515207884250729051:Nat:=0
def PySem.W.Fast.tw9926588501132983049:Nat:=0
def PySem.W.Fast.tw2074495100847177102:Nat:=0
def PySem.W.Fast.tw3050563985165358216:Nat:=0
def PySem.W.Fast.tw9476495599000564597:Nat:=0
def PySem.W.Fast.tw4592948204317129927:Nat:=0
def PySem.W.Fast.tw7289214531502978437:Nat:=0
def PySem.W.Fast.tw6575939723550334416:Nat:=0
def PySem.W.Fast.tw5961852976775597693:Nat:=0
def PySem.W.Fast.tw6599365506621904748:Nat:=0
def PySem.W.Fast.tw14136966827227580863:Nat:=0
def PySem.W.Fast.tw13278196003933311351:Nat:=0
def PySem.W.Fast.tw12405482132902053188:Nat:=0
def PySem.W.Fast.tw11988086582515059930:Nat:=0
def PySem.W.Fast.tw6098216221657425395:Nat:=0
def PySem.W.Fast.tw15840760401096741403:Nat:=0
def PySem.W.Fast.tw6349045961216589186:Nat:=0
def PySem.W.Fast.tw7401340624747003376:Nat:=0
def PySem.W.Fast.tw2418224068514291532:Nat:=0
def PySem.W.Fast.tw11680571399703105628:Nat:=0
def PySem.W.Fast.tw8703715565621982630:Nat:=0
def PySem.W.Fast.tw10491122276479274149:Nat:=0
def PySem.W.Fast.tw4931508539599023818:Nat:=0
def PySem.W.Fast.tw1475038732635558629:Nat:=0
def PySem.W.Fast.tw22181290840139417:Nat:=0
def PySem.W.Fast.tw1410331218695956481:Nat:=0
def PySem.W.Fast.tw4704970305879633476:Nat:=0
def PySem.W.Fast.tw2243457625914088121:Nat:=0
def PySem.W.Fast.tw16258438498764723606:Nat:=0
def PySem.W.Fast.tw3285257565547462489:Nat:=0
def PySem.W.Fast.tw1950848029399932983:Nat:=0
def PySem.W.Fast.tw268852145438910137:Nat:=0
def PySem.W.Fast.tw12528095433024267278:Nat:=0
def PySem.W.Fast.tw2028227097048972360:Nat:=0
def PySem.W.Fast.tw11658360370325219705:Nat:=0
def PySem.W.Fast.tw7934266738961226349:Nat:=0
def PySem.W.Fast.tw17768017877974178541:Nat:=0
def PySem.W.Fast.tw11546243922090001486:Nat:=0
def PySem.W.Fast.tw15466169144870743239:Nat:=0
def PySem.W.Fast.tw10342279095306615204:Nat:=0
def PySem.W.Fast.tw5752433683879274236:Nat:=0
def PySem.W.Fast.tw1363674687205141836:Nat:=0
def PySem.W.Fast.tw4474822637342879866:Nat:=0
def PySem.W.Fast.tw13056253473892143588:Nat:=0
def PySem.W.Fast.tw8737084786630782021:Nat:=0
def PySem.W.Fast.tw14452385198285979648:Nat:=0
def PySem.W.Fast.tw18108130153393182935:Nat:=0
def PySem.W.Fast.tw11333546808801891121:Nat:=0
def PySem.W.Fast.tw2910995047160665939:Nat:=0
def PySem.W.Fast.tw2103089937749444554:Nat:=0
def PySem.W.Fast.tw12662874369886199515:Nat:=0
def PySem.W.Fast.tw2860934454424700029:Nat:=0
def PySem.W.Fast.tw15944161070230849267:Nat:=0
def PySem.W.Fast.tw17288551204771179461:Nat:=0
def PySem.W.Fast.tw8439063489247134088:Nat:=0
def PySem.W.Fast.tw2876439931123479069:Nat:=0
def PySem.W.Fast.tw7943440771385285878:Nat:=0
def PySem.W.Fast.tw3432015786273969269:Nat:=0
def PySem.W.Fast.tw10122063975338265600:Nat:=0
def PySem.W.Fast.tw1986808434108428128:Nat:=0
def PySem.W.Fast.tw1354761444426681535:Nat:=0
def PySem.W.Fast.tw1504545508258787187:Nat:=0
def PySem.W.Fast.tw13333321883073166709:Nat:=0
def PySem.W.Fast.tw7970882072541501356:Nat:=0
def PySem.W.Fast.tw13429149200345954421:Nat:=0
def PySem.W.Fast.tw11711640632447807999:Nat:=0
def PySem.W.Fast.tw15083934509221901898:Nat:=0
def PySem.W.Fast.tw16813551040365675537:Nat:=0
def PySem.W.Fast.tw18096609116807956445:Nat:=0
def PySem.W.Fast.tw14879710083412721616:Nat:=0
def PySem.W.Fast.tw3773351054872491635:Nat:=0
def PySem.W.Fast.tw15298620265051139282:Nat:=0
def PySem.W.Fast.tw11476050089313468014:Nat:=0
def PySem.W.Fast.tw4298241378884638826:Nat:=0
def PySem.W.Fast.tw11091786451612976662:Nat:=0
def PySem.W.Fast.tw2278732003598972851:Nat:=0
def PySem.W.Fast.tw17481995492628842798:Nat:=0
def PySem.W.Fast.tw12751166094136012120:Nat:=0
def PySem.W.Fast.tw8772360364748981275:Nat:=0
def PySem.W.Fast.tw2059472746012381763:Nat:=0
def PySem.W.Fast.tw2083774317642694533:Nat:=0
def PySem.W.Fast.tw3830590342365115513:Nat:=0
def PySem.W.Fast.tw14522987788828569316:Nat:=0
def PySem.W.Fast.tw6851521705802494554:Nat:=0
def PySem.W.Fast.tw15276253316054229591:Nat:=0
def PySem.W.Fast.tw9759311350758024665:Nat:=0
def PySem.W.Fast.tw12083377425123075344:Nat:=0
def PySem.W.Fast.tw18187911078369977209:Nat:=0
def PySem.W.Fast.tw8972799313888729877:Nat:=0
def PySem.W.Fast.tw11974748849179327599:Nat:=0
def PySem.W.Fast.tw8092881796898572770:Nat:=0
def PySem.W.Fast.tw11803842295649932894:Nat:=0
def PySem.W.Fast.tw18418784358259006690:Nat:=0
def PySem.W.Fast.tw5180620567008464952:Nat:=0
def PySem.W.Fast.tw17050052004613914850:Nat:=0
def PySem.W.Fast.tw5879604691083825543:Nat:=0
def PySem.W.Fast.tw10183862598378449967:Nat:=0
def PySem.W.Fast.tw10856396745238370559:Nat:=0
def PySem.W.Fast.tw12513288665337526929:Nat:=0
def PySem.W.Fast.tw14010621047616720002:Nat:=0
def PySem.W.Fast.tw2603032745146038140:Nat:=0
def PySem.W.Fast.tw16033982026189098916:Nat:=0
def PySem.W.Fast.tw4784948176307639159:Nat:=0
def PySem.W.Fast.tw8445973995706112142:Nat:=0
def PySem.W.Fast.tw6248382125914304608:Nat:=0
def PySem.W.Fast.tw14104573796181207130:Nat:=0
def PySem.W.Fast.tw8436512087726653546:Nat:=0
def PySem.W.Fast.tw2411166537926972681:Nat:=0
def PySem.W.Fast.tw15932320048480563078:Nat:=0
def PySem.W.Fast.tw2889490786116428260:Nat:=0
def PySem.W.Fast.tw6164097842960961231:Nat:=0
def PySem.W.Fast.tw11747729559732094085:Nat:=0
def PySem.W.Fast.tw7012793867553807149:Nat:=0
def PySem.W.Fast.tw1197717954191473578:Nat:=0
def PySem.W.Fast.tw6829673289838030467:Nat:=0
def PySem.W.Fast.tw2802411409591511153:Nat:=0
def PySem.W.Fast.tw2935945272554785072:Nat:=0
def PySem.W.Fast.tw15181043532376870757:Nat:=0
def PySem.W.Fast.tw9042740914580153634:Nat:=0
def PySem.W.Fast.tw565768894187089979:Nat:=0
def PySem.W.Fast.tw4223023060692962080:Nat:=0
def PySem.W.Fast.tw18263422049606100967:Nat:=0
def PySem.W.Fast.tw1773239703825333349:Nat:=0
def PySem.W.Fast.tw8369984941565845463:Nat:=0
def PySem.W.Fast.tw16141746365528337911:Nat:=0
def PySem.W.Fast.tw18386319227360420826:Nat:=0
def PySem.W.Fast.tw14305440092937283227:Nat:=0
open PySem PySem.W PyProof.Rows
set_option maxRecDepth 100000 in
set_option maxHeartbeats 0 in
theorem PySem.Challenge.cw_mapdye_k93_whole_three_dyes_counted_holds : PySem.Challenge.rw_mapdye_k93_whole_three_dyes_counted.Holds := by
 w_on;o_law;k_head;(case hw=>w_witness2)
 k_fill
 refine uf.walk (l:=PySem.Challenge.rw_mapdye_k93_whole_three_dyes_counted) rfl rfl (λw h Y=>PySem.W.kIn_of Y) ?F
 case F=>
  intro w mg fa h KX G y6
  refine' uf.all_mk KX G y6 ?_ ?_ ?_ ?_ ?_ ?_ ?_ ?_ ?_ ?_ ?_ ?_ ?_ ?_ ?_ ?_ ?_ ?_ ?_ ?_ ?_ ?_ ?_ ?_ ?_ ?_ ?_ ?_ ?_ ?_ ?_ ?_ ?_ ?_ ?_ ?_ ?_ ?_ ?_ ?_ ?_ ?_ ?_ ?_ ?_ ?_ ?_ ?_ ?_ ?_ ?_ ?_ ?_ ?_ ?_ ?_ ?_ ?_ ?_ ?_ ?_ ?_ ?_ ?_ ?_ ?_ ?_ ?_ ?_ ?_ ?_ ?_ ?_ ?_ ?_ ?_ ?_ ?_ ?_ ?_ ?_ ?_ ?_ ?_ ?_ ?_ ?_ ?_ ?_ ?_ ?_ ?_ ?_ ?_ ?_ ?_ ?_ ?_ ?_ ?_ ?_ ?_ ?_ ?_ ?_ ?_ ?_ ?_ ?_ ?_ ?_ ?_ ?_ ?_ ?_ ?_ ?_ ?_ ?_ ?_ ?_ ?_ ?_ ?_ ?_ ?_ ?_ ?_ ?_ ?_ ?_ ?_ ?_ ?_ ?_ ?_ ?_ ?_ ?_ ?_ ?_ ?_ ?_ ?_ ?_ ?_ ?_ ?_ ?_ ?_ ?_ ?_ ?_ ?_ ?_ ?_ ?_ ?_ ?_ ?_ ?_ ?_ ?_ ?_ ?_ ?_ ?_ ?_ ?_ ?_ ?_ ?_ ?_ ?_ ?_ ?_ ?_ ?_ ?_ ?_ ?_ ?_ ?_ ?_ ?_ ?_ ?_ ?_ ?_ ?_ ?_ ?_ ?_ ?_ ?_ ?_ ?_ ?_ ?_ ?_ ?_ ?_ ?_ ?_ ?_
  all_goals (try (show _=_;k_is))

