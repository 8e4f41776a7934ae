import PyProof.Rows.All
import Wide.All
import OpenK.AllK
import Wide.FinOn
import Lean
import PyProof.EqAt
import PyProof.EqKinds
import PyProof.TupleCall
import PyProof.RaisesMany
import KE.KSortTup
import PyProof.NeKinds
import PyProof.SetKind
import PyProof.SetRoads
import PyProof.SetNew
import PyProof.WalksS
import PyProof.CollectWalk
import PyProof.TupleKey
import PyProof.IsRules
import PyProof.InstEq
import KE.KRevIter
import PyProof.FitsBits
import PyProof.P3Eq
import PyProof.RulesAs
import PyProof.NsDelKeeps
import PyProof.PassesOwn
import PyProof.FString
import PySem.Challenge.RW_mapdye_k18_refusals_made
set_option Elab.async false
set_option linter.all false
set_option maxRecDepth 100000
abbrev bx:= @Nat.le_refl
abbrev cH:= @List.size_toArray
abbrev de:= @List.mem_cons_self
abbrev dB:= @List.mem_cons_of_mem
abbrev eR:= @List.mem_append_right
abbrev el:= @Nat.lt_of_lt_of_le
abbrev cG:= @Nat.ne_of_lt
abbrev jk:= @List.getElem?_eq_some_iff
abbrev fP:= @List.length_cons
abbrev g9:= @Bool.false_ne_true
abbrev cF:= @List.mem_cons
abbrev fX:= @List.getElem?_eq_getElem
abbrev dQ:= @List.length_map
abbrev fB:= @List.lookup_cons
abbrev fY:= @List.getElem?_map
abbrev dR:= @Nat.le_trans
abbrev iJ:= @List.getElem?_set_self
abbrev kf:= @List.getD_eq_getElem?_getD
abbrev gZ:= @List.map_append
abbrev fZ:= @Nat.lt_irrefl
abbrev iK:= @Nat.le_of_not_lt
abbrev iL:= @Option.bind_some
abbrev lR:= @List.getElem?_cons_succ
abbrev iM:= @List.nodup_cons
abbrev lS:= @List.mem_append_left
abbrev lT:= @List.getElem?_set_ne
abbrev kg:= @Bool.eq_iff_iff
abbrev kh:= @List.length_set
abbrev pM:= @List.getElem?_append_left
abbrev lU:= @List.contains_cons
abbrev ki:= @List.mem_range
namespace L2
open PySem PySem.Spec PyProof.Rows
abbrev Key:=Sum Int Str
def ow:Key→Value→Bool
 | .inl k,v=>Value.isInt k v
 | .inr x,v=>Value.isStrOf x v
def xl(w:World):Key→Int
 | .inl k=>hashInt k
 | .inr x=>hashStr w x
theorem aU:∀{k:Key}{v:Value},ow k v=true→(∃i t,k=Sum.inl i∧v=Value.int i t)∨(∃x t,k=Sum.inr x∧v=Value.str x t)
 | .inl i,v,h=>by
  obtain ⟨t,e⟩:=Value.isInt_shape (k:=i) (v:=v) h;exact .inl ⟨i,t,rfl,e⟩
 | .inr x,v,h=>by
  obtain ⟨t,e⟩:=Value.isStrOf_shape (x:=x) (v:=v) h;exact .inr ⟨x,t,rfl,e⟩
theorem qo(a b:Int):decide ((Sum.inl a:Key)=Sum.inl b)=(a==b):=by
 by_cases e:a=b
 ·subst e;simp
 ·have h:¬(Sum.inl a:Key)=Sum.inl b:=λq=>e (Sum.inl.inj q)
  rw [decide_eq_false h];exact (beq_eq_false_iff_ne.mpr e).symm
theorem qr(a b:Str):decide ((Sum.inr a:Key)=Sum.inr b)=decide (a=b):=by
 by_cases e:a=b
 ·subst e;simp
 ·have h:¬(Sum.inr a:Key)=Sum.inr b:=λq=>e (Sum.inr.inj q)
  rw [decide_eq_false h,decide_eq_false e]
theorem qp(a:Int)(b:Str):decide ((Sum.inl a:Key)=Sum.inr b)=false:=decide_eq_false (λq=>nomatch q)
theorem qq(a:Str)(b:Int):decide ((Sum.inr a:Key)=Sum.inl b)=false:=decide_eq_false (λq=>nomatch q)
def gJ(prog:Program)(w:World):PySem.KeyKind prog w Key where
 is:=ow
 hash:=xl w
 inj:=λv a b ha hb=>by
  rcases aU ha with ⟨i,t,rfl,rfl⟩ | ⟨x,t,rfl,rfl⟩
  ·rcases aU hb with ⟨j,u,rfl,e⟩ | ⟨y,u,rfl,e⟩
   ·injection e with e1 _;rw [e1]
   ·exact nomatch e
  ·rcases aU hb with ⟨j,u,rfl,e⟩ | ⟨y,u,rfl,e⟩
   ·exact nomatch e
   ·injection e with e1 _;rw [e1]
 byValue:=λk v h=>by
  rcases aU h with ⟨i,t,rfl,rfl⟩ | ⟨x,t,rfl,rfl⟩<;>rfl
 pyHash:=λhv h=>by
  rcases aU hv with ⟨i,t,rfl,rfl⟩ | ⟨x,t,rfl,rfl⟩
  ·exact wpAny_pyHash_int h
  ·exact wpAny_pyHash_str h
 eqBool:=λhu hv h=>by
  rcases aU hu with ⟨i,t,rfl,rfl⟩ | ⟨x,t,rfl,rfl⟩
  ·rcases aU hv with ⟨j,u,rfl,rfl⟩ | ⟨y,u,rfl,rfl⟩
   ·rw [qo] at h;exact wpAny_eqBool_int h
   ·rw [qp] at h;exact SeqAt.EqAt.int_str i t y u _ _ _ _ h
  ·rcases aU hv with ⟨j,u,rfl,rfl⟩ | ⟨y,u,rfl,rfl⟩
   ·rw [qq] at h;exact SeqAt.EqAt.str_int x t j u _ _ _ _ h
   ·rw [qr] at h;exact wpAny_eqBool_str h
 «strs»:=λk x t v h=>by
  rcases aU h with ⟨i,u,rfl,e⟩ | ⟨y,u,rfl,e⟩
  ·exact nomatch e
  ·injection e with e1 _
   subst e1;cases v<;>rfl
inductive V where
 |aC|bl (b:Bool) |int (i:Int) |str (x:Str) |gb (b:Array UInt8) |jz (b:UInt64) |ref (a:Addr) |ty (n:String)
 deriving DecidableEq
def RelV:V→Value→Prop
 | .aC,u=>u=Value.none
 | .bl b,u=>u=Value.bool b
 | .int i,u=>∃t,u=Value.int i t
 | .str x,u=>∃t,u=Value.str x t
 | .gb b,u=>∃t,u=Value.bytes b t
 | .jz b,u=>∃t,u=Value.float b t
 | .ref a,u=>u=Value.ref a
 | .ty n,u=>u=Value.type n
abbrev Vals:List V→List Value→Prop:=Paired RelV
theorem Vals.length{xs:List V}{us:List Value}(r:Vals xs us):xs.length=us.length:=Paired.length r
theorem Vals.get:∀{xs:List V}{us:List Value}{i:Nat}{x:V},Vals xs us→xs[i]? =some x→∃u,us[i]? =some u∧RelV x u
 |_,_,_,_, .nil,e=>by simp at e
 |_,_,0,_, .cons r _,e=>by simp at e;subst e;exact ⟨_,rfl,r⟩
 |_,_,i+1,x, .cons _ t,e=>by
  obtain ⟨u,h1,h2⟩:=Vals.get (i:=i) (x:=x) t (by simpa using e)
  exact ⟨u,by simpa using h1,h2⟩
theorem Vals.set{x:V}{u:Value}(r:RelV x u):∀{xs:List V}{us:List Value}(i:Nat),Vals xs us→Vals (xs.set i x) (us.set i u)
 |_,_,_, .nil=> .nil
 |_,_,0, .cons _ t=> .cons r t
 |_,_,i+1, .cons q t=> .cons q (Vals.set r i t)
theorem Vals.append:∀{xs ys:List V}{us ws:List Value},Vals xs us→Vals ys ws→Vals (xs++ys) (us++ws)
 |_,_,_,_, .nil,s=>s
 |_,_,_,_, .cons r t,s=> .cons r (Vals.append t s)
theorem Vals.take:∀{xs:List V}{us:List Value}(n:Nat),Vals xs us→Vals (xs.take n) (us.take n)
 |_,_,0,_=> .nil
 |_,_,_+1, .nil=> .nil
 |_,_,n+1, .cons r t=> .cons r (Vals.take n t)
theorem Vals.drop:∀{xs:List V}{us:List Value}(n:Nat),Vals xs us→Vals (xs.drop n) (us.drop n)
 |_,_,0,r=>r
 |_,_,_+1, .nil=> .nil
 |_,_,n+1, .cons _ t=>Vals.drop n t
def eT:Option V→Option Value→Prop
 |some v,some u=>RelV v u
 |none,none=>True
 |_,_=>False
def KV{κ:Type}:List (κ×V)→List (κ×Value)→Prop:=Paired λ(p:κ×V)(q:κ×Value)=>p.1=q.1∧RelV p.2 q.2
def kV:Key→V
 | .inl i=> .int i
 | .inr x=> .str x
inductive HO where
 |lst (xs:List V)
 |tup (xs:List V)
 |dK (aZ:List (Key×V)) |dT (aZ:List (List Key×V))
 |set (S:Int→Bool) (n:Nat)
 |ins (C dx:Addr) (fs:List (Str×V))
 |own (x:Addr)
 |xd (fs:List (Str×V))
 |met (f x:Addr)
 |rng (lo hi:Int)
 |dG (o:Obj) (u:HO)
 |j7 (ps:Array Value)
 |ext (φ:Heap→Prop)
abbrev Hp:=Addr→Option HO
def upd(H:Hp)(a:Addr)(o:HO):Hp:=λb=>if b=a then some o else H b
theorem ae{H:Hp}{a:Addr}{o:HO}:upd H a o a=some o:=by unfold upd;rw [if_pos rfl]
theorem af{H:Hp}{a b:Addr}{o:HO}(h:b≠a):upd H a o b=H b:=by unfold upd;rw [if_neg h]
theorem aj{H:Hp}{a b:Addr}{o:HO}(h:H a=some o)(h':H b=none):a≠b:=by
 intro e;subst e;rw [h] at h';cases h'
section
variable (P:Program) (w:World)
def aI(H:Hp)(h:Heap)(a:Addr):HO→Prop
 | .lst xs=>xs.length≤sizeLine∧∃(its:List Value)(n:Nat),Vals xs its∧h.get? a=some {cls:= .type "list",data:= .seq its.toArray n}
 | .tup xs=>xs.length≤sizeLine∧∃its:List Value,Vals xs its∧IsTup h a its.toArray
 | .dK aZ=>aZ.length≤sizeLine∧(a==sysModules)=false∧∃vs,KV aZ vs∧h.DictOf (gJ P w) a vs
 | .dT aZ=>aZ.length≤sizeLine∧(a==sysModules)=false∧∃xs:List (List Key×Addr×Value),
   Paired (λ(p:List Key×V)(q:List Key×Addr×Value)=>p.1=q.1∧H q.2.1=some (.tup (p.1.map kV))∧RelV p.2 q.2.2) aZ xs∧
   ∃o es ep,h.get? a=some o∧o.ExactDict∧o.data= .dict es ep∧es.toList=xs.map (entryOfKey (tupleKind (gJ P w)))∧(xs.map (·.1)).Nodup
 | .set S n=>h.SetOf (intKind P w) a S n
 | .ins C dx fs=>H dx=some (.own a)∧fs.length≤1000∧dx≠a∧h.get? a=some (PySem.W.instObj C dx)∧
   ∃mA,h.Ns1 dx mA∧(∀f,eT (fs.lookup f) (mA f))∧PySem.Within mA (fs.map (·.1))
 | .own _=>∃o,h.get? a=some o
 | .xd fs=>∃mA,h.Ns1 a mA∧∀f,eT (fs.lookup f) (mA f)
 | .rng lo hi=>∃t u v,h.get? a=some {cls:= .type "range",data:= .fields #[.int lo t, .int hi u, .int 1 v]}
 | .dG o u=>h.get? a=some o∧aI H h a u
 | .j7 ps=>h.get? a=some {cls:= .none,data:= .fields ps}
 | .met f x=>h.get? a=some (PySem.W.methodObj (.ref f) (.ref x))
 | .ext φ=>φ h∧(∃o,h.get? a=some o)∧∀h1 h2:Heap,φ h1→(∀o,h1.get? a=some o→h2.get? a=some o)→φ h2
def bT(H:Hp)(h:Heap):Prop:=∀a o,H a=some o→aI P w H h a o
end
section
variable {P:Program} {w:World} {H H':Hp} {h h':Heap} {a:Addr} {o:HO}
theorem aI.lt(x:aI P w H h a o):a<h.objs.size:=by
 cases o with
 |lst xs=>obtain ⟨_,_,_,_,e⟩:=x;exact Heap.lt_size e
 |tup xs=>obtain ⟨_,_,_,p⟩:=x;exact p.lt
 |dK aZ=>obtain ⟨_,_,_,_,o,_,_,e,_⟩:=x;exact Heap.lt_size e
 |dT aZ=>obtain ⟨_,_,_,_,o,_,_,e,_⟩:=x;exact Heap.lt_size e
 |set S n=>obtain ⟨o,_,_,_,e,_⟩:=x;exact Heap.lt_size e
 |ins C dx fs=>obtain ⟨_,_,_,e,_⟩:=x;exact Heap.lt_size e
 |own y=>obtain ⟨_,e⟩:=x;exact Heap.lt_size e
 |xd fs=>obtain ⟨_,⟨_,_,_,e,_⟩,_⟩:=x;exact Heap.lt_size e
 |rng lo hi=>obtain ⟨_,_,_,e⟩:=x;exact Heap.lt_size e
 |dG ob u=>obtain ⟨e,_⟩:=x;exact Heap.lt_size e
 |j7 ps=>exact Heap.lt_size (show h.get? a=some _ from x)
 |met f y=>exact Heap.lt_size (show h.get? a=some _ from x)
 |ext φ=>obtain ⟨_,⟨_,e⟩,_⟩:=x;exact Heap.lt_size e
theorem Paired.rQ{α β:Type}{F G:α→β→Prop}:∀{rO:List α}{rP:List β},Paired F rO rP→(∀a b,F a b→G a b)→Paired G rO rP
 |_,_, .nil,_=> .nil
 |_,_, .cons r t,f=> .cons (f _ _ r) (Paired.rQ t f)
theorem aI.fA(x:aI P w H h a o)(k:∀b u,(b=a∨H b=some (.own a))→h.get? b=some u→h'.get? b=some u)
  (ho:∀b,H b=some (.own a)→H' b=some (.own a)) (ht:∀b xs,H b=some (.tup xs)→H' b=some (.tup xs)):aI P w H' h' a o:=by
 induction o with
 |lst xs=>obtain ⟨z,its,n,r,e⟩:=x;exact ⟨z,its,n,r,k _ _ (.inl rfl) e⟩
 |tup xs=>obtain ⟨z,its,r,ob,e,c⟩:=x;exact ⟨z,its,r,ob,k _ _ (.inl rfl) e,c⟩
 |dK aZ=>obtain ⟨z,y,vs,r,ob,es,ep,e,c⟩:=x;exact ⟨z,y,vs,r,ob,es,ep,k _ _ (.inl rfl) e,c⟩
 |dT aZ=>
  obtain ⟨z,y,xs,r,ob,es,ep,e,c⟩:=x;exact ⟨z,y,xs,Paired.rQ r λp q z=>⟨z.1,ht _ _ z.2.1,z.2.2⟩,ob,es,ep,k _ _ (.inl rfl) e,c⟩
 |set S n=>obtain ⟨ob,es,ep,t,e,c⟩:=x;exact ⟨ob,es,ep,t,k _ _ (.inl rfl) e,c⟩
 |ins C dx fs=>
  obtain ⟨d,z,ne,e,mA,⟨od,es,ep,e2,c⟩,r⟩:=x;exact ⟨ho _ d,z,ne,k _ _ (.inl rfl) e,mA,⟨od,es,ep,k _ _ (.inr d) e2,c⟩,r⟩
 |own y=>obtain ⟨ob,e⟩:=x;exact ⟨ob,k _ _ (.inl rfl) e⟩
 |xd fs=>obtain ⟨mA,⟨od,es,ep,e,c⟩,r⟩:=x;exact ⟨mA,⟨od,es,ep,k _ _ (.inl rfl) e,c⟩,r⟩
 |rng lo hi=>obtain ⟨t,u,v,e⟩:=x;exact ⟨t,u,v,k _ _ (.inl rfl) e⟩
 |dG ob u ih=>obtain ⟨e,q⟩:=x;exact ⟨k _ _ (.inl rfl) e,ih q⟩
 |j7 ps=>
  have e:h.get? a=some {cls:= .none,data:= .fields ps}:=x;show h'.get? a=some {cls:= .none,data:= .fields ps};exact k a _ (.inl rfl) e
 |met f y=>
  have e:h.get? a=some (PySem.W.methodObj (.ref f) (.ref y)):=x;show h'.get? a=some (PySem.W.methodObj (.ref f) (.ref y));exact k a _ (.inl rfl) e
 |ext φ=>obtain ⟨p,⟨o,e⟩,st⟩:=x;exact ⟨st _ _ p λo q=>k _ _ (.inl rfl) q,⟨o,k _ _ (.inl rfl) e⟩,st⟩
theorem bT.lt(x:bT P w H h)(e:H a=some o):a<h.objs.size:=(x a o e).lt
theorem bT.fresh(x:bT P w H h)(e:h.objs.size≤a):H a=none:=by
 cases q:H a with
 |none=>rfl
 |some u=>exact absurd (el (x.lt q) e) (fZ _)
theorem bT.kept(x:bT P w H h)(k:∀b u,h.get? b=some u→h'.get? b=some u):bT P w H h':=λa o e=>
 (x a o e).fA (λb u _ q=>k b u q) (λ_ q=>q) λ_ _ q=>q
theorem bT.laid(x:bT P w H h)(k:∀b u,h.get? b=some u→h'.get? b=some u)(hp:h.objs.size≤a)(new:aI P w (upd H a o) h' a o):bT P w (upd H a o) h':=λb u e=>by
 have hn:=x.fresh hp
 by_cases hb:b=a
 ·subst hb;rw [ae] at e;cases e;exact new
 ·rw [af hb] at e
  exact (x b u e).fA (λc v _ q=>k c v q) (λc q=>by rw [af (aj q hn)];exact q) λc xs q=>by rw [af (aj q hn)];exact q
end
def Rd(H:Hp)(a:Addr)(u:HO):Prop:=H a=some u∨∃o,H a=some (.dG o u)
theorem Rd.ok{P:Program}{w:World}{H:Hp}{h:Heap}{a:Addr}{u:HO}(r:Rd H a u)(x:bT P w H h):aI P w H h a u:=by
 rcases r with r| ⟨o,r⟩
 ·exact x a u r
 ·obtain ⟨_,q⟩:=x a _ r
  exact q
def ng:Option HO→Prop
 |some (.lst _)=>True
 |some (.dK _)=>True
 |some (.dT _)=>True
 |some (.set _ _)=>True
 |some (.ins _ _ _)=>True
 |some (.ext _)=>True
 |_=>False
section
variable {P:Program} {w:World} {H:Hp} {h h':Heap} {x e:Addr} {o':HO}
theorem bT.write(ok:bT P w H h)(mu:ng (H x))(he:e=x∨H e=some (.own x))(k:∀b u,b≠e→h.get? b=some u→h'.get? b=some u)(jD:∃u,h'.get? e=some u)
  (new:aI P w (upd H x o') h' x o'):bT P w (upd H x o') h':=λb u q=>by
 have jS:∀c y,H c=some (.own y)→c≠x:=λc y r z=>by subst z;rw [r] at mu;exact mu
 have lF:∀c xs,H c=some (.tup xs)→c≠x:=λc xs r z=>by subst z;rw [r] at mu;exact mu
 by_cases hb:b=x
 ·subst hb;rw [ae] at q;cases q;exact new
 ·rw [af hb] at q
  by_cases kG:b=e
  ·have q':H b=some (.own x):=by
    rcases he with z|z
    ·exact absurd (kG.trans z) hb
    ·rw [kG];exact z
   rw [q] at q';cases q';obtain ⟨v,hv⟩:=jD;exact ⟨v,by rw [kG];exact hv⟩
  ·refine (ok b u q).fA (λc v hc r=>k c v ?_ r) (λc r=>by rw [af (jS c b r)];exact r) λc xs r=>by rw [af (lF c xs r)];exact r
   rcases hc with rfl|hc
   ·exact kG
   ·rintro rfl
    rcases he with z|z
    ·exact jS c b hc z
    ·rw [hc] at z;cases z;exact hb rfl
end
structure Un (fs ex:List Addr) (H H':Hp) (h h':Heap):Prop where
 keep:∀b o,h.get? b=some o→H b=none→b∉fs→b∉ex→h'.get? b=some o
 slot:∀b o,h.get? b=some o→H b=none→b∈fs→b∉ex→∃sl,h'.get? b=some {o with slots:=sl}
 free:∀b o,h.get? b=some o→H b=none→b∉ex→H' b=none
 there:∀b o,h.get? b=some o→b∉ex→∃o',h'.get? b=some o'
 tups:∀b xs,H b=some (.tup xs)→H' b=some (.tup xs)
 frzs:∀b o u,H b=some (.dG o u)→H' b=some (.dG o u)
 tbls:∀b ps,H b=some (.j7 ps)→∃more,H' b=some (.j7 (ps++more))
section
variable {fs zS ex EJ:List Addr} {H H1 H2:Hp} {h h1 h2 h':Heap} {a x e:Addr} {o:HO}
theorem Un.any(u:Un fs ex H H1 h h1){b:Addr}{ob:Obj}(q:h.get? b=some ob)(n:H b=none)(hx:b∉ex):∃sl,h1.get? b=some {ob with slots:=sl}:=by
 by_cases hb:b∈fs
 ·exact u.slot b ob q n hb hx
 ·exact ⟨ob.slots,u.keep b ob q n hb hx⟩
theorem Un.kept(k:∀b u,h.get? b=some u→h'.get? b=some u):Un fs ex H H h h':=
 ⟨λb ob q _ _ _=>k b ob q,λb ob q _ _ _=>⟨ob.slots,k b ob q⟩,λ_ _ _ n _=>n,λb ob q _=>⟨ob,k b ob q⟩,λ_ _ q=>q,λ_ _ _ q=>q,λ_ ps q=>⟨#[],by rw [q];simp⟩⟩
theorem Un.refl:Un fs ex H H h h:=Un.kept λ_ _ q=>q
theorem Un.laid(k:∀b u,h.get? b=some u→h'.get? b=some u)(hp:h.objs.size≤a)(hn:H a=none):Un fs ex H (upd H a o) h h' where
 keep:=λb u q _ _ _=>k b u q
 slot:=λb u q _ _ _=>⟨u.slots,k b u q⟩
 free:=λb u q n _=>by rw [af (cG (el (Heap.lt_size q) hp))];exact n
 there:=λb u q _=>⟨u,k b u q⟩
 tups:=λb xs q=>by rw [af (aj q hn)];exact q
 frzs:=λb u xs q=>by rw [af (aj q hn)];exact q
 tbls:=λb ps q=>⟨#[],by rw [af (aj q hn),q];simp⟩
theorem Un.write(mu:ng (H x))(he:e=x∨H e=some (.own x))(k:∀b u,b≠e→h.get? b=some u→h'.get? b=some u)(jD:∃u,h'.get? e=some u):Un fs ex H (upd H x o) h h':=by
 have hx:∀b,H b=none→b≠x:=λb n z=>by subst z;rw [n] at mu;exact mu
 have hb:∀b,H b=none→b≠e:=λb n z=>by
  subst z
  rcases he with r|r
  ·exact hx b n r
  ·rw [n] at r;cases r
 have hm:∀b u,H b=some u→¬ng (some u)→b≠x:=λb u q nm z=>by subst z;rw [q] at mu;exact nm mu
 refine ⟨λb u q n _ _=>k b u (hb b n) q,λb u q n _ _=>⟨u.slots,k b u (hb b n) q⟩,λb u q n _=>by rw [af (hx b n)];exact n,λb u q _=>?_,
  λb xs q=>by rw [af (hm b _ q λz=>z)];exact q,λb u xs q=>by rw [af (hm b _ q λz=>z)];exact q,λb ps q=>⟨#[],by rw [af (hm b _ q λz=>z),q];simp⟩⟩
 by_cases kG:b=e
 ·subst kG;exact jD
 ·exact ⟨u,k b u kG q⟩
end
def qV(h:Heap)(H:Hp):List Addr:=(List.range h.objs.size).filter λa=>(H a).isSome
def eZ(h:Heap)(H:Hp):Heap:=PySem.W.hideAll h (qV h H)
theorem kH(h:Heap)(H:Hp):(eZ h H).objs.size=h.objs.size:=PySem.W.hideAll_size _ _
theorem mm{h:Heap}{H:Hp}{b:Addr}{o:Obj}(e:h.get? b=some o)(n:H b=none):(eZ h H).get? b=some o:=
 PySem.W.hideAll_get _ e λhm=>by
  have q:(H b).isSome=true:=(List.mem_filter.mp hm).2;rw [n] at q;simp at q
theorem oO{h:Heap}{H:Hp}{b:Addr}{o:Obj}(e:(eZ h H).get? b=some o):h.get? b=some o∧H b=none:=by
 have e':h.get? b=some o:=PySem.W.of_hideAll (qV h H) e;refine ⟨e',?_⟩;cases q:H b with
 |none=>rfl
 |some x=>
  have hm:b∈qV h H:=List.mem_filter.mpr ⟨ki.mpr (Heap.lt_size e'),by simp [q]⟩
  have z:(eZ h H).get? b=none:=PySem.W.hideAll_none (qV h H) hm;rw [z] at e;cases e
structure Mod (K:PySem.W.Frag) (mg:Str→Option Value) (base:Heap):Prop where
 kin:K.In base
 glob:base.Ns mainGlobals mg
 blt:∃mb,base.Ns builtinsNs mb∧∀x:Str,x≠"__name__"→mb x=bootBuiltins x
 nolimit:base.NoLimit
structure Cx where
 prog:Program
 w:World
 K:PySem.W.Frag
 mg:Str→Option Value
 base:Heap
 A:Around
 N:List Str
 s₀:Shared
 H₀:Hp
 env:Env
 outer:List Env
 stack:List Env
 ex:List Addr
 fn:Str→Bool
 calm:Bool
 pn:List (Addr×Obj)
 xe:Value→Shared→Prop
def gD(l:List Env):List Addr:=l.filterMap (·.frame)
abbrev Cx.fs(X:Cx):List Addr:=gD X.outer
def nq(sc:Scope)(x:Str):Prop:=sc.names.lookup x=some .local∨sc.names.lookup x=some .cell∨sc.names.lookup x=some .free
def Loc(sc:Scope)(x:Str):Prop:=sc.names.lookup x=some .local∨sc.names.lookup x=some .cell
def Look(env:Env)(h:Heap)(m:Str→Option Value)(x:Str)(u:Value):Prop:=
 (env.kindOf x=some .local∧m x=some u)∨((env.kindOf x=some .cell∨env.kindOf x=some .free)∧∃c,env.cells.lookup x=some c∧h.IsCell c (some u))
structure Cx.Ok (X:Cx):Prop where
 mod:Mod X.K X.mg X.base
 kind:X.env.scope.kind= .function
 glob:X.env.globals=mainGlobals
 blt:X.env.builtins=builtinsNs
 above:X.s₀.heap.objs.size≤X.env.locals
 inj:∀x y c,X.env.cells.lookup x=some c→X.env.cells.lookup y=some c→x=y
 has:∀x,(X.env.kindOf x=some .cell∨X.env.kindOf x=some .free)→∃c,X.env.cells.lookup x=some c
 cab:∀x c,X.fn x=true→X.env.cells.lookup x=some c→X.s₀.heap.objs.size≤c
 hd:X.calm=true→X.A.handled=none
 frames:X.A.frames=some X.stack
 stk:X.stack=X.outer∨(X.stack=X.env::X.outer∧X.env.frame=some X.env.locals)
 exf:∀b∈X.ex,b≠X.env.locals∧∀x c,X.env.cells.lookup x=some c→c≠b
 bs:∀b o,X.base.get? b=some o→X.s₀.heap.get? b=some o∧X.H₀ b=none
 bsz:X.base.objs.size≤X.s₀.heap.objs.size
 noex:∀b o,X.base.get? b=some o→b∉X.ex
 exfs:∀b∈X.ex,b∉X.fs
 funs:X.s₀.heap.FunFrames X.base X.outer
 frf:∀b∈X.fs,X.H₀ b=none
structure Inv (X:Cx) (pins:List (Addr×Obj)) (σ:List (Option V)) (H:Hp) (s:Shared):Prop where
 ok:X.Ok
 os:s.os=X.s₀.os
 bare:AllBare s.gens
 base:Un X.fs X.ex X.H₀ H X.s₀.heap s.heap
 loc:∃m,s.heap.Ns X.env.locals m∧∀(i:Nat)(x:Str)(v:V),X.N[i]? =some x→σ[i]? =some (some v)→nq X.env.scope x→∃u,RelV v u∧Look X.env s.heap m x u
 cell:∀x c,X.env.cells.lookup x=some c→∃v,s.heap.IsCell c v
 free:H X.env.locals=none
 freeC:∀x c,X.env.cells.lookup x=some c→H c=none
 pin:∀p∈X.pn++pins,s.heap.get? p.1=some p.2∧H p.1=none∧p.1≠X.env.locals∧p.1∉X.fs∧∀v,p.2.data≠ .cell v
 hok:bT X.prog X.w H s.heap
 len:σ.length=X.N.length
section
variable {X:Cx} {pins:List (Addr×Obj)} {σ:List (Option V)} {H H':Hp} {s:Shared} {h':Heap}
theorem Cx.Ok.xI(ok:X.Ok){b:Addr}{o:Obj}(e:X.base.get? b=some o):b∉X.fs:=λhb=>by
 have:=(ok.funs.mem hb).1
 rw [e] at this;cases this
theorem Inv.bs(I:Inv X pins σ H s):∀b o,X.base.get? b=some o→s.heap.get? b=some o∧H b=none:=λb o e=>
 ⟨I.base.keep b o (I.ok.bs b o e).1 (I.ok.bs b o e).2 (I.ok.xI e) (I.ok.noex b o e),I.base.free b o (I.ok.bs b o e).1 (I.ok.bs b o e).2 (I.ok.noex b o e)⟩
theorem Inv.bk(I:Inv X pins σ H s):∀b o,X.base.get? b=some o→s.heap.get? b=some o:=λb o e=>(I.bs b o e).1
theorem Inv.mod(I:Inv X pins σ H s):Mod X.K X.mg X.base:=I.ok.mod
theorem Inv.aW(I:Inv X pins σ H s):X.K.In s.heap:=I.ok.mod.kin.keeps I.bk
theorem Inv.lt(I:Inv X pins σ H s):X.env.locals<s.heap.objs.size:=let ⟨_,hn,_⟩:=I.loc;hn.lt
theorem Inv.sz(I:Inv X pins σ H s):X.s₀.heap.objs.size≤s.heap.objs.size:=dR I.ok.above (Nat.le_of_lt I.lt)
theorem Inv.rR(I:Inv X pins σ H s){a:Addr}(h:s.heap.objs.size≤a):a∉X.fs:=λhb=>by
 obtain ⟨_,o,ho,_⟩:=I.ok.funs.mem hb;exact absurd (el (Heap.lt_size ho) (dR I.sz h)) (fZ _)
theorem Inv.kr(I:Inv X pins σ H s):∀x c,X.env.cells.lookup x=some c→c≠X.env.locals:=λx c e z=>by
 obtain ⟨v,o,ho,hd⟩:=I.cell x c e;obtain ⟨m,⟨o',es,ep,kJ,eY,_⟩,_⟩:=I.loc;rw [z,kJ] at ho;cases ho;rw [eY] at hd;cases hd
theorem Inv.funs(I:Inv X pins σ H s):s.heap.FunFrames X.base X.outer:=by
 have all:∀(l:List Env),(∀b∈gD l,b∈X.fs)→X.s₀.heap.FunFrames X.base l→s.heap.FunFrames X.base l:=by
  intro l
  induction l with
  |nil=>intro _ _;trivial
  |cons env r ih=>
   intro hs hl;obtain ⟨hk,⟨L,o,hf,hn,ho,hd⟩,hr⟩:=hl;have hL:L∈X.fs:=hs L (by unfold gD;rw [List.filterMap_cons,hf];exact de)
   obtain ⟨sl,e⟩:=I.base.slot L o ho (I.ok.frf L hL) hL λz=>I.ok.exfs L z hL;exact ⟨hk,⟨L,_,hf,hn,e,hd⟩,ih (λb hb=>hs b (by unfold gD;rw [List.filterMap_cons,hf];exact dB _ hb)) hr⟩
 exact all X.outer (λ_ hb=>hb) I.ok.funs
theorem Inv.stack(I:Inv X pins σ H s):s.heap.FunFrames X.base X.stack:=by
 rcases I.ok.stk with e| ⟨e,hf⟩
 ·rw [e];exact I.funs
 ·rw [e]
  obtain ⟨m,hn,_⟩:=I.loc;refine .cons (by rw [I.ok.kind];decide) hf hn ?_ I.funs
  exact Heap.get?_none_of_le (dR I.ok.bsz I.ok.above)
theorem Inv.jf(I:Inv X pins σ H s):∀b∈gD X.stack,b∈X.env.locals::X.fs:=λb hb=>by
 rcases I.ok.stk with e| ⟨e,hf⟩
 ·rw [e] at hb;exact dB _ hb
 ·rw [e] at hb
  unfold gD at hb;rw [List.filterMap_cons,hf] at hb;exact hb
theorem Inv.j6(I:Inv X pins σ H s):∀b∈gD X.stack,H b=none:=λb hb=>by
 rcases cF.mp (I.jf b hb) with e|hb
 ·rw [e];exact I.free
 ·obtain ⟨_,o,ho,_⟩:=I.ok.funs.mem hb
  exact I.base.free b o ho (I.ok.frf b hb) λz=>I.ok.exfs b z hb
theorem Inv.step{g':Array GenState}{t':Nat}{d':Drawn}{ch:List Addr}(I:Inv X pins σ H s)
  (ib:∀b∈ch,(b∈X.ex∨X.s₀.heap.objs.size≤b)∧b≠X.env.locals∧(∀x c,X.env.cells.lookup x=some c→c≠b)∧∀p∈X.pn++pins,p.1≠b)
  (keep:∀b o,b≠X.env.locals→b∉X.fs→b∉ch→s.heap.get? b=some o→H b=none→h'.get? b=some o)
  (slot:∀b o,b≠X.env.locals→b∈X.fs→b∉ch→s.heap.get? b=some o→H b=none→∃sl,h'.get? b=some {o with slots:=sl}) (free:∀b o,b∉ch→s.heap.get? b=some o→H b=none→H' b=none)
  (there:∀b o,b∉ch→s.heap.get? b=some o→∃o',h'.get? b=some o')
  (tups:∀b xs,H b=some (.tup xs)→H' b=some (.tup xs)) (frzs:∀b o u,H b=some (.dG o u)→H' b=some (.dG o u)) (tbls:∀b ps,H b=some (.j7 ps)→∃more,H' b=some (.j7 (ps++more)))
  (ns:∀m,s.heap.Ns X.env.locals m→h'.Ns X.env.locals m) (hok:bT X.prog X.w H' h') (hg:AllBare g'):
  Inv X pins σ H' {s with heap:=h',gens:=g',drawn:=d',toks:=t'}:=by
 have xD:∀b o,X.s₀.heap.get? b=some o→b≠X.env.locals:=λb o e=>cG (el (Heap.lt_size e) I.ok.above)
 have qz:∀b o,X.s₀.heap.get? b=some o→b∉X.ex→b∉ch:=λb o e hx hb=>by
  rcases (ib b hb).1 with z|z
  ·exact hx z
  ·exact absurd (el (Heap.lt_size e) z) (fZ _)
 have cellK:∀x c,X.env.cells.lookup x=some c→∀v,s.heap.IsCell c v→h'.IsCell c v:=λx c e v ⟨o,ho,hd⟩=>by
  have oH:c∉ch:=λz=>(ib c z).2.2.1 x c e rfl
  by_cases hc:c∈X.fs
  ·obtain ⟨sl,q⟩:=slot c o (I.kr x c e) hc oH ho (I.freeC x c e)
   exact ⟨_,q,hd⟩
  ·exact ⟨o,keep c o (I.kr x c e) hc oH ho (I.freeC x c e),hd⟩
 refine ⟨I.ok,I.os,hg,⟨λb o e n hb hx=>?_,λb o e n hb hx=>?_,λb o e n hx=>?_,λb o e hx=>?_,λb xs e=>tups b xs (I.base.tups b xs e),λb o xs e=>frzs b o xs (I.base.frzs b o xs e),λb ps e=>?_⟩,?_,λx c e=>?_,?_,λx c e=>?_,λp hp=>?_,hok,I.len⟩
 ·exact keep b o (xD b o e) hb (qz b o e hx) (I.base.keep b o e n hb hx) (I.base.free b o e n hx)
 ·obtain ⟨sl,e1⟩:=I.base.slot b o e n hb hx
  obtain ⟨uc,e2⟩:=slot b _ (xD b o e) hb (qz b o e hx) e1 (I.base.free b o e n hx);exact ⟨uc,e2⟩
 ·obtain ⟨o',e1⟩:=I.base.there b o e hx
  exact free b o' (qz b o e hx) e1 (I.base.free b o e n hx)
 ·obtain ⟨o',e1⟩:=I.base.there b o e hx
  exact there b o' (qz b o e hx) e1
 ·obtain ⟨m1,e1⟩:=I.base.tbls b ps e
  obtain ⟨m2,e2⟩:=tbls b _ e1;exact ⟨m1++m2,by rw [e2,Array.append_assoc]⟩
 ·obtain ⟨m,hn,hl⟩:=I.loc
  refine ⟨m,ns m hn,λi x v e1 e2 e3=>?_⟩;obtain ⟨u,r,l⟩:=hl i x v e1 e2 e3;refine ⟨u,r,?_⟩
  rcases l with l| ⟨k,c,e,z⟩
  ·exact .inl l
  ·exact .inr ⟨k,c,e,cellK x c e _ z⟩
 ·obtain ⟨v,z⟩:=I.cell x c e
  exact ⟨v,cellK x c e v z⟩
 ·obtain ⟨m,⟨o,_,_,ho,_⟩,_⟩:=I.loc
  exact free _ o (λz=>(ib _ z).2.1 rfl) ho I.free
 ·obtain ⟨v,o,ho,hd⟩:=I.cell x c e
  exact free c o (λz=>(ib c z).2.2.1 x c e rfl) ho (I.freeC x c e)
 ·obtain ⟨e,n,ne,nf,d⟩:=I.pin p hp
  have oH:p.1∉ch:=λz=>(ib p.1 z).2.2.2 p hp rfl;exact ⟨keep p.1 p.2 ne nf oH e n,free p.1 p.2 oH e n,ne,nf,d⟩
theorem Inv.un{t':Nat}(I:Inv X pins σ H s)(u:Un X.fs [] H H' s.heap h')(hok:bT X.prog X.w H' h'):Inv X pins σ H' {s with heap:=h',toks:=t'}:=by
 obtain ⟨m,⟨o,es,ep,ho,r⟩,_⟩:=id I.loc;obtain ⟨sl,hL⟩:=u.any ho I.free (by simp)
 exact I.step (g':=s.gens) (d':=s.drawn) (ch:= []) (λ_ z=>nomatch z) (λb o _ hb _ e n=>u.keep b o e n hb (by simp)) (λb o _ hb _ e n=>u.slot b o e n hb (by simp)) (λb o _ e n=>u.free b o e n (by simp)) (λb o _ e=>u.there b o e (by simp)) u.tups u.frzs u.tbls (λm' hm=>by
  obtain ⟨o',sQ,sP,kJ,r'⟩:=hm;rw [ho] at kJ;cases kJ;exact ⟨_,sQ,sP,hL,r'⟩) hok I.bare
theorem Inv.call{g':Array GenState}{t':Nat}{d':Drawn}{ch:List Addr}(I:Inv X pins σ H s)(u:Un (gD X.stack) ch H H' s.heap h')(hok:bT X.prog X.w H' h')(hg:AllBare g')
  (ib:∀b∈ch,(b∈X.ex∨X.s₀.heap.objs.size≤b)∧b≠X.env.locals∧(∀x c,X.env.cells.lookup x=some c→c≠b)∧∀p∈X.pn++pins,p.1≠b):
  Inv X pins σ H' {s with heap:=h',gens:=g',drawn:=d',toks:=t'}:=by
 obtain ⟨m,⟨o,es,ep,ho,r⟩,_⟩:=id I.loc;obtain ⟨sl,hL⟩:=u.any ho I.free λz=>(ib _ z).2.1 rfl
 exact I.step (ch:=ch) ib (λb o hL hb hc e n=>u.keep b o e n (λz=>(cF.mp (I.jf b z)).elim hL hb) hc) (λb o _ _ hc e n=>u.any e n hc) (λb o hc e n=>u.free b o e n hc) (λb o hc e=>u.there b o e hc) u.tups u.frzs u.tbls (λm' hm=>by
  obtain ⟨o',sQ,sP,kJ,r'⟩:=hm;rw [ho] at kJ;cases kJ;exact ⟨_,sQ,sP,hL,r'⟩) hok hg
theorem Inv.turned{t':Nat}{it:Addr}(I:Inv X pins σ H s)(k:∀b o,b≠it→s.heap.get? b=some o→h'.get? b=some o)(hn:H it=none)(hL:it≠X.env.locals)
  (h1:it∈X.ex∨X.s₀.heap.objs.size≤it) (h2:∀x c,X.env.cells.lookup x=some c→c≠it) (h3:∀p∈X.pn++pins,p.1≠it):Inv X pins σ H {s with heap:=h',toks:=t'}:=by
 have xH:∀b u,H b=some u→b≠it:=λb u e z=>by rw [z,hn] at e;cases e
 refine I.step (g':=s.gens) (d':=s.drawn) (ch:= [it]) (λb hb=>?_) (λb o _ _ hc e _=>k b o (λz=>hc (by simp [z])) e) (λb o _ _ hc e _=>⟨o.slots,k b o (λz=>hc (by simp [z])) e⟩) (λ_ _ _ _ n=>n)
  (λb o hc e=>⟨o,k b o (λz=>hc (by simp [z])) e⟩) (λ_ _ e=>e) (λ_ _ _ e=>e) (λb ps e=>⟨#[],by rw [e];simp⟩) (λm hm=>?_) (λb u e=>?_) I.bare
 ·have e:b=it:=by simpa using hb
  subst e;exact ⟨h1,hL,h2,h3⟩
 ·obtain ⟨o,es,ep,ho,r⟩:=hm
  exact ⟨o,es,ep,k _ o (Ne.symm hL) ho,r⟩
 ·refine (I.hok b u e).fA (λc v hc q=>k c v ?_ q) (λ_ q=>q) λ_ _ q=>q
  rcases hc with z|z
  ·rw [z];exact xH b u e
  ·exact xH c _ z
theorem Inv.tok(I:Inv X pins σ H s)(t:Nat):Inv X pins σ H {s with toks:=t}:=I.un (h':=s.heap) (t':=t) Un.refl I.hok
theorem Inv.kept{t':Nat}(I:Inv X pins σ H s)(k:∀b u,s.heap.get? b=some u→h'.get? b=some u):Inv X pins σ H {s with heap:=h',toks:=t'}:=I.un (Un.kept k) (I.hok.kept k)
theorem Inv.laid{a:Addr}{o:HO}{t':Nat}(I:Inv X pins σ H s)(k:∀b u,s.heap.get? b=some u→h'.get? b=some u)(hp:s.heap.objs.size≤a)(new:aI X.prog X.w (upd H a o) h' a o):
  Inv X pins σ (upd H a o) {s with heap:=h',toks:=t'}:=I.un (Un.laid k hp (I.hok.fresh hp)) (I.hok.laid k hp new)
theorem Inv.write{x e:Addr}{o:HO}{t':Nat}(I:Inv X pins σ H s)(mu:ng (H x))(he:e=x∨H e=some (.own x))(k:∀b u,b≠e→s.heap.get? b=some u→h'.get? b=some u)(jD:∃u,h'.get? e=some u)
  (new:aI X.prog X.w (upd H x o) h' x o):Inv X pins σ (upd H x o) {s with heap:=h',toks:=t'}:=I.un (Un.write mu he k jD) (I.hok.write mu he k jD new)
theorem Inv.fw{ja:List (Addr×Obj)}(I:Inv X pins σ H s)(h:∀p∈ja,s.heap.get? p.1=some p.2∧H p.1=none∧p.1≠X.env.locals∧p.1∉X.fs∧∀v,p.2.data≠ .cell v):Inv X ja σ H s:=
 ⟨I.ok,I.os,I.bare,I.base,I.loc,I.cell,I.free,I.freeC,λp hp=>(List.mem_append.mp hp).elim (λz=>I.pin p (lS _ z)) (h p),I.hok,I.len⟩
theorem iE{N:List Str}(hN:N.Nodup){i j:Nat}{x:Str}(a:N[i]? =some x)(b:N[j]? =some x):i=j:=by
 obtain ⟨h1,e1⟩:=jk.mp a;obtain ⟨h2,e2⟩:=jk.mp b;exact (List.getElem_inj hN).mp (e1.trans e2.symm)
theorem store_ok2{M:Model}{A:Around}{E:Value→Shared→Prop}{i:Nat}{x:Str}{v:V}{u:Value}{Q:Unit→Shared→Prop}(I:Inv X pins σ H s)(hN:X.N.Nodup)(hi:X.N[i]? =some x)(hx:Loc X.env.scope x)(r:RelV v u)
  (h:∀s',Inv X pins (σ.set i (some v)) H s'→(∃a,Heap.SameBut a s.heap s'.heap∧(a=X.env.locals∨X.env.cells.lookup x=some a))→Q () s') (hf:X.fn x=true∨X.env.scope.names.lookup x=some .local:=by first|exact .inl rfl|exact .inr rfl|assumption):wpAny M A (storeName X.env x u) Q E s:=by
 obtain ⟨m,hn,hl⟩:=id I.loc;have nX:(X.env.scope.kind== .class|| (X.env.scope.kind== .module&&X.env.locals !=X.env.globals))=false:=by rw [I.ok.kind];rfl
 have rK:i<σ.length:=by rw [I.len];exact (jk.mp hi).1
 have kr:=I.kr
 have tracked:∀{a:Addr}{h':Heap},(∃o,s.heap.get? a=some o∧H a=none)→Heap.SameBut a s.heap h'→bT X.prog X.w H h':=λ {a h'} ha hs b ob e=>by
  obtain ⟨_,_,nZ⟩:=ha;refine (I.hok b ob e).fA (λc w' hc q=>(hs.2 c ?_).trans q) (λ_ q=>q) λ_ _ q=>q;rintro rfl
  rcases hc with rfl|hc
  ·rw [nZ] at e;cases e
  ·rw [nZ] at hc;cases hc
 rcases hx with hk|hk
 ·refine wpAny_storeName_local hk hn (λh' kI hs=>?_) nX
  obtain ⟨oL,_,_,Al,_⟩:=id hn;refine h _ ⟨I.ok,I.os,I.bare,⟨λb o e n hb hx=>?_,λb o e n hb hx=>?_,I.base.free,λb o e hx=>?_,I.base.tups,I.base.frzs,I.base.tbls⟩,⟨_,kI,λj y v' e1 e2 e3=>?_⟩,λy c e=>?_,I.free,I.freeC,λp hp=>?_,tracked ⟨oL,Al,I.free⟩ hs,by simpa using I.len⟩ ⟨_,hs, .inl rfl⟩
  ·exact (hs.2 b (cG (el (Heap.lt_size e) I.ok.above))).trans (I.base.keep b o e n hb hx)
  ·obtain ⟨sl,e1⟩:=I.base.slot b o e n hb hx
   exact ⟨sl,(hs.2 b (cG (el (Heap.lt_size e) I.ok.above))).trans e1⟩
  ·obtain ⟨o',e1⟩:=I.base.there b o e hx
   exact ⟨o',(hs.2 b (cG (el (Heap.lt_size e) I.ok.above))).trans e1⟩
  ·by_cases hj:j=i
   ·subst hj
    rw [hi] at e1;cases e1;rw [iJ rK] at e2;cases e2;exact ⟨u,r, .inl ⟨hk,by simp⟩⟩
   ·rw [lT (Ne.symm hj)] at e2
    obtain ⟨u',r',q⟩:=hl j y v' e1 e2 e3;refine ⟨u',r',?_⟩
    rcases q with ⟨k,e⟩ | ⟨k,c,e,z⟩
    ·refine .inl ⟨k,?_⟩
     have:y≠x:=λe=>hj (iE hN e1 (e▸hi))
     simp [this,e]
    ·exact .inr ⟨k,c,e,z.sameBut hs (kr y c e)⟩
  ·obtain ⟨w',z⟩:=I.cell y c e
   exact ⟨w',z.sameBut hs (kr y c e)⟩
  ·obtain ⟨e,n,ne,nf,d⟩:=I.pin p hp
   exact ⟨(hs.2 p.1 ne).trans e,n,ne,nf,d⟩
 ·have tm:X.fn x=true:=by
   rcases hf with z|z
   ·exact z
   ·rw [z] at hk;cases hk
  obtain ⟨c,hc⟩:=I.ok.has x (.inl hk);obtain ⟨w',z⟩:=I.cell x c hc;refine wpAny_storeName_cell I.ok.kind hk hc z (λh' nW hs=>?_);obtain ⟨oc,wA,wB⟩:=id z;refine h {s with heap:=h'} ⟨I.ok,I.os,I.bare,⟨λb o e n hb hx=>?_,λb o e n hb hx=>?_,I.base.free,λb o e hx=>?_,I.base.tups,I.base.frzs,I.base.tbls⟩,⟨m,hn.sameBut hs (Ne.symm (kr x c hc)),λj y v' e1 e2 e3=>?_⟩,λy c' e=>?_,I.free,I.freeC,λp hp=>?_,tracked ⟨oc,wA,I.freeC x c hc⟩ hs,by simpa using I.len⟩ ⟨c,hs, .inr hc⟩
  ·exact (hs.2 b (cG (el (Heap.lt_size e) (I.ok.cab x c tm hc)))).trans (I.base.keep b o e n hb hx)
  ·obtain ⟨sl,e1⟩:=I.base.slot b o e n hb hx
   exact ⟨sl,(hs.2 b (cG (el (Heap.lt_size e) (I.ok.cab x c tm hc)))).trans e1⟩
  ·obtain ⟨o',e1⟩:=I.base.there b o e hx
   exact ⟨o',(hs.2 b (cG (el (Heap.lt_size e) (I.ok.cab x c tm hc)))).trans e1⟩
  ·by_cases hj:j=i
   ·subst hj
    rw [hi] at e1;cases e1;rw [iJ rK] at e2;cases e2;exact ⟨u,r, .inr ⟨.inl hk,c,hc,nW⟩⟩
   ·rw [lT (Ne.symm hj)] at e2
    obtain ⟨u',r',q⟩:=hl j y v' e1 e2 e3;refine ⟨u',r',?_⟩
    rcases q with q| ⟨k,c',e,z'⟩
    ·exact .inl q
    ·refine .inr ⟨k,c',e,z'.sameBut hs ?_⟩
     rintro rfl;exact hj (iE hN e1 (I.ok.inj _ _ _ e hc▸hi))
  ·by_cases wj:c'=c
   ·subst wj;exact ⟨_,nW⟩
   ·obtain ⟨w2,z2⟩:=I.cell y c' e
    exact ⟨w2,z2.sameBut hs wj⟩
  ·obtain ⟨e,n,ne,nf,d⟩:=I.pin p hp
   refine ⟨(hs.2 p.1 ?_).trans e,n,ne,nf,d⟩;intro q;rw [q,wA] at e;have q':oc=p.2:=Option.some.inj e;exact d w' (by rw [←q'];exact wB)
theorem ee{M:Model}{A:Around}{E:Value→Shared→Prop}{i:Nat}{x:Str}{v:V}{u:Value}{Q:Unit→Shared→Prop}(I:Inv X pins σ H s)(hN:X.N.Nodup)(hi:X.N[i]? =some x)(hx:Loc X.env.scope x)(r:RelV v u)
  (h:∀s',Inv X pins (σ.set i (some v)) H s'→Q () s') (hf:X.fn x=true∨X.env.scope.names.lookup x=some .local:=by first|exact .inl rfl|exact .inr rfl|assumption):wpAny M A (storeName X.env x u) Q E s:=
 store_ok2 I hN hi hx r (λs' I' _=>h s' I') hf
theorem Inv.sx{s':Shared}{ch:List Addr}(I:Inv X pins σ H s)(ho:s'.os=s.os)(u:Un (gD X.stack) ch H H' s.heap s'.heap)(hok:bT X.prog X.w H' s'.heap)(hg:AllBare s'.gens)
  (ib:∀b∈ch,(b∈X.ex∨X.s₀.heap.objs.size≤b)∧b≠X.env.locals∧(∀x c,X.env.cells.lookup x=some c→c≠b)∧∀p∈X.pn++pins,p.1≠b):Inv X pins σ H' s':=by
 obtain ⟨h',g',d',t',o'⟩:=s';have e:o'=s.os:=ho;subst e;exact I.call (g':=g') (t':=t') (d':=d') u hok hg ib
end
abbrev XK:=Value→Option Addr→Hp→Prop
abbrev St:=List (Option V)
abbrev VK:=V→Hp→Prop
abbrev TE:=St→Hp→VK→Prop
abbrev TT:=St→Hp→(Bool→Hp→Prop)→Prop
abbrev TA:=St→Hp→(List V→Hp→Prop)→Prop
structure Ends where
 nx:St→Hp→Prop
 rt:VK
 bk:St→Hp→Prop:=λ_ _=>False
 ct:St→Hp→Prop:=λ_ _=>False
abbrev TS:=Ends→St→Hp→Prop
def EP(X:Cx)(pins:List (Addr×Obj))(σ:St)(Q:VK)(u:Value)(s':Shared):Prop:=∃v H',Inv X pins σ H' s'∧RelV v u∧Q v H'
def TP(X:Cx)(pins:List (Addr×Obj))(σ:St)(Q:Bool→Hp→Prop)(b:Bool)(s':Shared):Prop:=∃H',Inv X pins σ H' s'∧Q b H'
def AP(X:Cx)(pins:List (Addr×Obj))(σ:St)(Q:List V→Hp→Prop)(us:List Value)(s':Shared):Prop:=∃vs H',Inv X pins σ H' s'∧Vals vs us∧Q vs H'
def SP(X:Cx)(pins:List (Addr×Obj))(D:Ends)(f:Flow)(s':Shared):Prop:=
 match f with
 | .next=>∃aA H',Inv X pins aA H' s'∧D.nx aA H'
 | .brk=>∃aA H',Inv X pins aA H' s'∧D.bk aA H'
 | .cont=>∃aA H',Inv X pins aA H' s'∧D.ct aA H'
 | .ret u=>∃v aA H',Inv X pins aA H' s'∧RelV v u∧D.rt v H'
def PE(X:Cx)(e:Expr)(t:TE):Prop:=
 ∀(pins:List (Addr×Obj))(s:Shared)(σ:St)(H:Hp)(Q:VK),Inv X pins σ H s→t σ H Q→wpAny (model X.prog X.w) X.A (eval e X.env) (EP X pins σ Q) X.xe s
def PT(X:Cx)(e:Expr)(t:TT):Prop:=
 ∀(pins:List (Addr×Obj))(s:Shared)(σ:St)(H:Hp)(Q:Bool→Hp→Prop),Inv X pins σ H s→t σ H Q→wpAny (model X.prog X.w) X.A (isTrue e X.env (eval e X.env)) (TP X pins σ Q) X.xe s
def PW(X:Cx)(e:Expr)(t:TT):Prop:=
 ∀(whole:Sem Value)(pins:List (Addr×Obj))(s:Shared)(σ:St)(H:Hp)(Q:Bool→Hp→Prop),Inv X pins σ H s→t σ H Q→wpAny (model X.prog X.w) X.A (isTrue e X.env whole) (TP X pins σ Q) X.xe s
theorem PW.pt{X:Cx}{e:Expr}{t:TT}(h:PW X e t):PT X e t:=h _
def PA(X:Cx)(es:List Expr)(t:TA):Prop:=
 ∀(pos:Pos)(pins:List (Addr×Obj))(s:Shared)(σ:St)(H:Hp)(Q:List V→Hp→Prop),Inv X pins σ H s→t σ H Q→wpAny (model X.prog X.w) X.A (spliced (backTo pos (starEach es X.env))) (AP X pins σ Q) X.xe s
def PS(X:Cx)(st:Stmt)(t:TS):Prop:=
 ∀(pins:List (Addr×Obj))(s:Shared)(σ:St)(H:Hp)(D:Ends),Inv X pins σ H s→t D σ H→wpAny (model X.prog X.w) X.A (exec st X.env) (SP X pins D) X.xe s
def cz(X:Cx)(st:List Stmt)(t:TS):Prop:=
 ∀(pins:List (Addr×Obj))(s:Shared)(σ:St)(H:Hp)(D:Ends),Inv X pins σ H s→t D σ H→wpAny (model X.prog X.w) X.A (execs st X.env) (SP X pins D) X.xe s
theorem thn{α:Type}{t:Sem α}{Q Q':α→Shared→Prop}{M:Model}{A:Around}{E:Value→Shared→Prop}{s:Shared}(h:wpAny M A t Q E s)(hQ:∀a s,Q a s→Q' a s):wpAny M A t Q' E s:=wpAny_mono h hQ λ_ _ x=>x
section
variable {X:Cx}
def se(i:Nat):TE:=λσ H Q=>∃v,σ[i]? =some (some v)∧Q v H
def tC(v:V):TE:=λ_ H Q=>Q v H
theorem lK{i:Nat}{x:Str}{pos:Pos}(hN:X.N[i]? =some x)(hv:nq X.env.scope x)(hd:(x==("__debug__":Str))=false:=by decide)(fD:(x==("__classdict__":Str))=false:=by decide):PE X (.Name x pos) (se i):=by
 intro pins s σ H Q I h;obtain ⟨v,e,h⟩:=h;obtain ⟨m,hn,hl⟩:=I.loc;obtain ⟨u,r,l⟩:=hl i x v hN e hv;have fin:EP X pins σ Q u s:=⟨v,H,I,r,h⟩
 rcases l with ⟨hk,hm⟩ | ⟨hk,c,hc,iW⟩
 ·exact wpAny_Name (wpAny_loadName_local I.ok.kind hk hn hm fin) hd
 ·rcases hk with hk|hk
  ·exact wpAny_Name (wpAny_loadName_cell I.ok.kind hk hc iW fin) hd
  ·exact wpAny_Name (wpAny_loadName_free I.ok.kind hk hc iW fin fD) hd
theorem ai{i j pos}:PE X (.Constant (.int i) j pos) (tC (.int i)):=λ_ _ _ H _ I h=>wpAny_Constant_int ⟨.int i,H,I.tok _,⟨_,rfl⟩,h⟩
theorem gK{b j pos}:PE X (.Constant (.bool b) j pos) (tC (.bl b)):=λ_ _ _ H _ I h=>Constant_bool ⟨.bl b,H,I,rfl,h⟩
theorem bj{x j pos}:PE X (.Constant (.str x) j pos) (tC (.str x)):=λ_ _ _ H _ I h=>Calls.Constant_str ⟨.str x,H,I.tok _,⟨_,rfl⟩,h⟩
def Gl(X:Cx)(x:Str):Prop:=X.env.kindOf x=some .globalImplicit
theorem dH{E:Value→Shared→Prop}{pins:List (Addr×Obj)}{s:Shared}{σ:St}{H:Hp}{x:Str}{u:Value}{pos:Pos}{Q:Value→Shared→Prop}(I:Inv X pins σ H s)(hg:Gl X x)(hm:X.mg x=some u)(h:Q u s)
  (hd:(x==("__debug__":Str))=false:=by decide):wpAny (model X.prog X.w) X.A (eval (.Name x pos) X.env) Q E s:=
 Calls.Name_function_global I.ok.kind hg (Calls.loadGlobal_global (by rw [I.ok.glob];exact I.mod.glob.keeps I.bk) hm h) hd
theorem dW{E:Value→Shared→Prop}{pins:List (Addr×Obj)}{s:Shared}{σ:St}{H:Hp}{x:Str}{u:Value}{pos:Pos}{Q:Value→Shared→Prop}(I:Inv X pins σ H s)(hg:Gl X x)(hm:X.mg x=none)(hv:bootBuiltins x=some u)(h:Q u s)
  (hn:x≠"__name__":=by decide) (hd:(x==("__debug__":Str))=false:=by decide):wpAny (model X.prog X.w) X.A (eval (.Name x pos) X.env) Q E s:=by
 obtain ⟨mb,h1,h2⟩:=I.mod.blt;exact Calls.Name_function_global I.ok.kind hg (Calls.loadGlobal_builtin (by rw [I.ok.glob];exact I.mod.glob.keeps I.bk) hm (by rw [I.ok.blt];exact h1.keeps I.bk) ((h2 x hn).trans hv) h) hd
theorem aP{x:Str}{v:V}{u:Value}{pos:Pos}(hg:Gl X x)(hm:X.mg x=some u)(r:RelV v u)(hd:(x==("__debug__":Str))=false:=by decide):PE X (.Name x pos) (tC v):=
 λ_ _ _ H _ I h=>dH I hg hm ⟨v,H,I,r,h⟩ hd
theorem bP{x:Str}{v:V}{u:Value}{pos:Pos}(hg:Gl X x)(hm:X.mg x=none)(hv:bootBuiltins x=some u)(r:RelV v u)(hn:x≠"__name__":=by decide)(hd:(x==("__debug__":Str))=false:=by decide):PE X (.Name x pos) (tC v):=
 λ_ _ _ H _ I h=>dW I hg hm hv ⟨v,H,I,r,h⟩ hn hd
variable {a b:Expr} {ta tb:TE} {pos:Pos}
def tB(t:TE):TT:=λσ H Q=>t σ H λx H1=>∃c,x= .bl c∧Q c H1
theorem d9{e:Expr}{t:TE}(h:PE X e t)(he:∀whole,isTrue e X.env whole=(do let v ←whole;standAt e.pos;holding [v] (truthy v)):=by intro _;rfl):PT X e (tB t):=by
 intro pins s σ H Q I hw;refine isTrue_plain (thn (h pins s σ H _ I hw) λv s1 ⟨x,H1,I1,r1,q1⟩=>?_) (he _);obtain ⟨d,rfl,q⟩:=q1;cases r1;exact wpAny_truthy_bool ⟨H1,I1,q⟩
variable {tA uh:TT} {rest:List Expr}
def D6(t u:TT):TT:=λσ H Q=>t σ H λc H1=>if c=true then Q true H1 else u σ H1 Q
def yp(t:TT):TT:=λσ H Q=>t σ H λc H1=>Q (!c) H1
theorem lN(ha:PT X a tA):PW X (.BoolOp .Or [a] pos) tA:=by
 intro wh pins s σ H Q I h;refine isTrue_or (thn (ha pins s σ H Q I h) λc s1 e=>?_);cases c with
 |false=>exact isTrue_or_nil e
 |true=>exact e
theorem oV(ha:PT X a tA)(hb:PW X (.BoolOp .Or (b::rest) pos) uh):PW X (.BoolOp .Or (a::b::rest) pos) (D6 tA uh):=by
 intro wh pins s σ H Q I h;refine isTrue_or (thn (ha pins s σ H _ I h) λc s1 ⟨H1,I1,q1⟩=>?_);cases c with
 |true=>exact ⟨H1,I1,q1⟩
 |false=>exact hb wh pins s1 σ H1 Q I1 q1
theorem fy(ha:PT X a tA):PT X (.UnaryOp .Not a pos) (yp tA):=by
 intro pins s σ H Q I h;exact isTrue_not (ha pins s σ H (λc H1=>Q (!c) H1) I h)
def ug(ta tb:TE):TE:=λσ H Q=>ta σ H λx H1=>∃c,x= .bl c∧if c=true then tb σ H1 Q else Q (.bl false) H1
theorem lJ{op}{t:TE}(h:PE X a t):PE X (.BoolOp op [a] pos) t:=λpins s σ H Q I hw=>BoolOp_one (h pins s σ H Q I hw)
theorem lI(ha:PE X a ta)(hb:PE X (.BoolOp .And (b::rest) pos) tb):PE X (.BoolOp .And (a::b::rest) pos) (ug ta tb):=by
 intro pins s σ H Q I h;refine BoolOp_and (thn (ha pins s σ H _ I h) λv s1 ⟨x,H1,I1,r1,q1⟩=>?_);obtain ⟨c,rfl,q1⟩:=q1;cases r1;refine wpAny_truthy_bool ?_;cases c with
 |true=>exact hb pins s1 σ H1 Q I1 q1
 |false=>exact ⟨.bl false,H1,I1,rfl,q1⟩
def D5(t:TT)(ta tb:TE):TE:=λσ H Q=>t σ H λc H1=>if c=true then ta σ H1 Q else tb σ H1 Q
theorem mJ{c:Expr}(hc:PT X c tA)(ha:PE X a ta)(hb:PE X b tb):PE X (.IfExp c a b pos) (D5 tA ta tb):=by
 intro pins s σ H Q I h;refine wpAny_IfExp (thn (hc pins s σ H _ I h) λd s1 ⟨H1,I1,q1⟩=>?_);cases d with
 |true=>exact ha pins s1 σ H1 Q I1 q1
 |false=>exact hb pins s1 σ H1 Q I1 q1
end
def ay(K:PySem.W.Frag)(H:Hp)(a:Addr)(xs:List V):Prop:=
 Rd H a (.lst xs)∨
  ∃(o:Obj)(its:Array Value)(n:Nat),K.lookup a=some o∧o.cls= .type "list"∧o.dict=none∧o.data= .seq its n∧its.size≤sizeLine∧Vals xs its.toList
def bF(K:PySem.W.Frag)(H:Hp)(a:Addr)(xs:List V):Prop:=
 Rd H a (.tup xs)∨
  ∃(o:Obj)(its:Array Value)(n:Nat),K.lookup a=some o∧o.cls= .type "tuple"∧o.data= .seq its n∧its.size≤sizeLine∧Vals xs its.toList
def u0:Value→Option V
 | .none=>some .aC
 | .bool b=>some (.bl b)
 | .int i _=>some (.int i)
 | .str x _=>some (.str x)
 | .bytes b _=>some (.gb b)
 | .float b _=>some (.jz b)
 | .ref a=>some (.ref a)
 | .type n=>some (.ty n)
 |_=>none
theorem RelV.abs{x:V}{u:Value}(r:RelV x u):u0 u=some x:=by
 cases x with
 |aC=>cases r;rfl
 |bl _=>cases r;rfl
 |int _=>obtain ⟨t,rfl⟩:=r;rfl
 |str _=>obtain ⟨t,rfl⟩:=r;rfl
 |gb _=>obtain ⟨t,rfl⟩:=r;rfl
 |jz _=>obtain ⟨t,rfl⟩:=r;rfl
 |ref _=>cases r;rfl
 |ty _=>cases r;rfl
theorem RelV.inj{x y:V}{u:Value}(r:RelV x u)(q:RelV y u):x=y:=Option.some.inj (r.abs.symm.trans q.abs)
theorem Vals.inj:∀{xs ys:List V}{us:List Value},Vals xs us→Vals ys us→xs=ys
 |_,_,_, .nil, .nil=>rfl
 |_,_,_, .cons r t, .cons r' t'=>by rw [r.inj r',Vals.inj t t']
section
variable {X:Cx} {pins:List (Addr×Obj)} {σ:St} {H:Hp} {s:Shared} {a:Addr} {xs ys:List V}
theorem ay.of{K:PySem.W.Frag}(h:H a=some (.lst xs)):ay K H a xs:= .inl (.inl h)
theorem bF.of{K:PySem.W.Frag}(h:H a=some (.tup xs)):bF K H a xs:= .inl (.inl h)
theorem Inv.list(I:Inv X pins σ H s)(h:ay X.K H a xs):∃its:List Value,Vals xs its∧PlainL s.heap a its.toArray∧xs.length≤sizeLine:=by
 rcases h with h| ⟨o,its,n,hk,hc,hd,hs,hz,r⟩
 ·obtain ⟨z,its,n,r,e⟩:=h.ok I.hok
  exact ⟨its,r,⟨_,n,e,rfl,rfl,rfl⟩,z⟩
 ·refine ⟨its.toList,r,⟨o,n,I.aW a o hk,hc,hd,by simpa using hs⟩,?_⟩
  have e:=r.length;simp only [Array.length_toList] at e;omega
theorem Inv.tuple(I:Inv X pins σ H s)(h:bF X.K H a xs):∃its:List Value,Vals xs its∧IsTup s.heap a its.toArray∧xs.length≤sizeLine:=by
 rcases h with h| ⟨o,its,n,hk,hc,hs,hz,r⟩
 ·obtain ⟨z,its,r,p⟩:=h.ok I.hok
  exact ⟨its,r,p,z⟩
 ·refine ⟨its.toList,r,⟨o,I.aW a o hk,hc,n,by simpa using hs⟩,?_⟩
  have e:=r.length;simp only [Array.length_toList] at e;omega
theorem Inv.fJ(I:Inv X pins σ H s)(h:ay X.K H a xs)(h':ay X.K H a ys):xs=ys:=by
 obtain ⟨its,r,⟨o,n,e,_,_,d⟩,_⟩:=I.list h;obtain ⟨its',r',⟨o',n',e',_,_,d'⟩,_⟩:=I.list h';rw [e] at e';cases e';rw [d] at d'
 injection d' with d1 _
 have:its=its':=by simpa using congrArg Array.toList d1
 subst this;exact r.inj r'
end
abbrev Cx.eD(X:Cx)(E:Value→Shared→Prop):Cx:={X with xe:=E}
abbrev Cx.gd(X:Cx):Cx:=X.eD λ_ _=>False
theorem Cx.Ok.eD{X:Cx}(ok:X.Ok)(E:Value→Shared→Prop):(X.eD E).Ok:=
 ⟨ok.mod,ok.kind,ok.glob,ok.blt,ok.above,ok.inj,ok.has,ok.cab,ok.hd,ok.frames,ok.stk,ok.exf,ok.bs,ok.bsz,ok.noex,ok.exfs,ok.funs,ok.frf⟩
theorem Cx.Ok.cV{X:Cx}{E:Value→Shared→Prop}(ok:(X.eD E).Ok):X.Ok:=
 ⟨ok.mod,ok.kind,ok.glob,ok.blt,ok.above,ok.inj,ok.has,ok.cab,ok.hd,ok.frames,ok.stk,ok.exf,ok.bs,ok.bsz,ok.noex,ok.exfs,ok.funs,ok.frf⟩
section
variable {X:Cx} {pins:List (Addr×Obj)} {σ:St} {H:Hp} {s:Shared} {E:Value→Shared→Prop}
theorem Inv.eD(I:Inv X pins σ H s)(E:Value→Shared→Prop):Inv (X.eD E) pins σ H s:=⟨I.ok.eD E,I.os,I.bare,I.base,I.loc,I.cell,I.free,I.freeC,I.pin,I.hok,I.len⟩
theorem Inv.cV(I:Inv (X.eD E) pins σ H s):Inv X pins σ H s:=⟨I.ok.cV,I.os,I.bare,I.base,I.loc,I.cell,I.free,I.freeC,I.pin,I.hok,I.len⟩
theorem SP.cV{D:Ends}{f:Flow}{s':Shared}(h:SP (X.eD E) pins D f s'):SP X pins D f s':=by
 cases f with
 |next=>obtain ⟨aA,H',I,q⟩:=h;exact ⟨aA,H',I.cV,q⟩
 |brk=>obtain ⟨aA,H',I,q⟩:=h;exact ⟨aA,H',I.cV,q⟩
 |cont=>obtain ⟨aA,H',I,q⟩:=h;exact ⟨aA,H',I.cV,q⟩
 |ret u=>obtain ⟨v,aA,H',I,r,q⟩:=h;exact ⟨v,aA,H',I.cV,r,q⟩
theorem cz.gd{st:List Stmt}{t:TS}(h:cz X.gd st t):cz X st t:=λpins s σ H D I hw=>
 wpAny_mono (h pins s σ H D (I.eD _) hw) (λ_ _ q=>q.cV) λ_ _ z=>False.elim z
end
section
variable {X:Cx} {st:Stmt} {rest:List Stmt} {t u:TS} {e:Expr} {te:TE} {pos:Pos}
def uo:TS:=λD σ H=>D.nx σ H
def r9(t u:TS):TS:=λD σ H=>t {D with nx:=u D} σ H
theorem bu:cz X [] uo:=λ_ _ σ H _ I h=>wpAny_execs_nil ⟨σ,H,I,h⟩
theorem ah(h1:PS X st t)(h2:cz X rest u):cz X (st::rest) (r9 t u):=by
 intro pins s σ H D I h;refine wpAny_execs_cons (thn (h1 pins s σ H {D with nx:=u D} I h) λf s1 q=>?_)
 cases f with
 |next=>
  obtain ⟨aA,H',I',q⟩:=q;exact h2 pins s1 aA H' D I' q
 |ret v=>exact q
 |brk=>exact q
 |cont=>exact q
theorem au(h1:PS X st t):cz X [st] t:=by
 intro pins s σ H D I h;refine wpAny_execs_cons (thn (h1 pins s σ H D I h) λf s1 q=>?_);cases f with
 |next=>exact wpAny_execs_nil q
 |ret v=>exact q
 |brk=>exact q
 |cont=>exact q
theorem Inv.quiet{pins:List (Addr×Obj)}{σ:St}{H:Hp}{s:Shared}(I:Inv X pins σ H s):interactive X.env=false:=by simp [interactive,I.ok.kind]
def uk(te:TE):TS:=λD σ H=>te σ H λ_ H1=>D.nx σ H1
theorem bq(he:PE X e te)(hs:swapsWith e none pos.line X.env=pure false:=by rfl):PS X (.Expr e pos) (uk te):=by
 intro pins s σ H D I h;exact wpAny_Expr_any (thn (he pins s σ H _ I h) λv s1 ⟨x,H1,I1,r1,q1⟩=>⟨σ,H1,I1,q1⟩) I.quiet hs
def yq(te:TE):TS:=λD σ H=>te σ H D.rt
theorem aX(he:PE X e te):PS X (.Return (some e) pos) (yq te):=by
 intro pins s σ H D I h;exact wpAny_Return_some (thn (he pins s σ H _ I h) λv s1 ⟨x,H1,I1,r1,q1⟩=>⟨x,σ,H1,I1,r1,q1⟩)
def ym(c:TT)(t u:TS):TS:=λD σ H=>c σ H λb H1=>if b=true then t D σ H1 else u D σ H1
theorem cE{c:Expr}{a b:List Stmt}{tc:TT}(hc:PT X c tc)(ha:cz X a t)(hb:cz X b u):PS X (.If c a b pos) (ym tc t u):=by
 intro pins s σ H D I h;refine wpAny_If (thn (hc pins s σ H _ I h) λd s1 ⟨H1,I1,q1⟩=>?_);cases d with
 |true=>exact ha pins s1 σ H1 D I1 q1
 |false=>exact hb pins s1 σ H1 D I1 q1
def qS:TS:=λ_ _ _=>False
theorem kX{lg:List Stmt}:cz X lg qS:=λ_ _ _ _ _ _ h=>h.elim
end
abbrev TG:=V→St→Hp→(St→Hp→Prop)→Prop
abbrev jo:=List V→St→Hp→(St→Hp→Prop)→Prop
def PG(X:Cx)(target:Expr)(t:TG):Prop:=
 ∀(pins:List (Addr×Obj))(s:Shared)(σ:St)(H:Hp)(v:V)(u:Value)(Q:St→Hp→Prop),Inv X pins σ H s→RelV v u→t v σ H Q→
  wpAny (model X.prog X.w) X.A (assign target X.env u) (λ_ s'=>∃aA H',Inv X pins aA H' s'∧Q aA H') X.xe s
def nj(X:Cx)(ts:List Expr)(t:jo):Prop:=
 ∀(pins:List (Addr×Obj))(s:Shared)(σ:St)(H:Hp)(vs:List V)(us:List Value)(Q:St→Hp→Prop),Inv X pins σ H s→Vals vs us→t vs σ H Q→
  wpAny (model X.prog X.w) X.A (assignInOrder ((assignEach ts X.env).map (·.2)) us) (λ_ s'=>∃aA H',Inv X pins aA H' s'∧Q aA H') X.xe s
abbrev nk:=V→V→V→Hp→(Hp→Prop)→Prop
def rh(X:Cx)(t:nk):Prop:=
 ∀(pins:List (Addr×Obj))(s:Shared)(σ:St)(H:Hp)(o i v:V)(ov iv u:Value)(Q:Hp→Prop),Inv X pins σ H s→RelV o ov→RelV i iv→RelV v u→t o i v H Q→
  wpAny (model X.prog X.w) X.A (setItem ov iv u) (λ_ s'=>∃H',Inv X pins σ H' s'∧Q H') X.xe s
abbrev pR:=V→V→Hp→VK→Prop
def sr(X:Cx)(op:Operator)(t:pR):Prop:=
 ∀(pins:List (Addr×Obj))(s:Shared)(σ:St)(H:Hp)(x y:V)(v u:Value)(Q:VK),Inv X pins σ H s→RelV x v→RelV y u→t x y H Q→
  wpAny (model X.prog X.w) X.A (inplaceOp op v u) (EP X pins σ Q) X.xe s
section
variable {X:Cx} {pos:Pos}
def kD(i:Nat):TG:=λv σ H Q=>Q (σ.set i (some v)) H
theorem aJ{i:Nat}{x:Str}(hN:X.N.Nodup)(hi:X.N[i]? =some x)(hx:Loc X.env.scope x)(hf:X.fn x=true∨X.env.scope.names.lookup x=some .local:=by first|exact .inl rfl|exact .inr rfl|assumption):PG X (.Name x pos) (kD i):=by
 intro pins s σ H v u Q I r h;exact wpAny_assign_Name (ee I hN hi hx r (λs' I'=>⟨_,H,I',h⟩) hf)
def vU:jo:=λvs σ H Q=>vs= []∧Q σ H
def sS(t:TG)(u:jo):jo:=λvs σ H Q=>∃v r,vs=v::r∧t v σ H λaA H'=>u r aA H' Q
theorem dc:nj X [] vU:=by
 intro pins s σ H vs us Q I r h;obtain ⟨e,h⟩:=h;subst e;cases r;exact assignInOrder_nil ⟨σ,H,I,h⟩
theorem aQ{e:Expr}{es:List Expr}{t:TG}{u:jo}(h1:PG X e t)(h2:nj X es u)
  (hs:(assignEach (e::es) X.env).map (·.2)=assign e X.env::(assignEach es X.env).map (·.2):=by rfl):nj X (e::es) (sS t u):=by
 intro pins s σ H vs us Q I r h;obtain ⟨v,vr,e1,h⟩:=h;subst e1;cases r with
 |cons r rr=>
  rw [hs];refine assignInOrder_cons (thn (h1 pins s σ H _ _ _ I r h) λ_ s1 ⟨mY,H1,I1,q1⟩=>?_);exact h2 pins s1 mY H1 _ _ Q I1 rr q1
def rF(K:PySem.W.Frag)(n:Nat)(t:jo):TG:=λv σ H Q=>∃a xs,v= .ref a∧bF K H a xs∧xs.length=n∧t xs σ H Q
theorem dY{es:List Expr}{k:Nat}{t:jo}{n:Nat}(hc:X.calm=true)(h:nj X es t)
  (hn:(assignEach es X.env).length=n:=by rfl) (tJ:(assignEach es X.env).findIdx? (·.1)=none:=by rfl):PG X (.Tuple es k pos) (rF X.K n t):=by
 intro pins s σ H v u Q I r hw;obtain ⟨a,xs,e1,hq,hl,hw⟩:=hw;subst e1;cases r;obtain ⟨its,rv,ht,hz⟩:=I.tuple hq;refine assign_Tuple_tuple (I.ok.hd hc) ht (by simp [hn,←hl,rv.length]) tJ λh' hx=>?_
 have I1:Inv X pins σ H {s with heap:=h'}:=I.kept (t':=s.toks) λb o e=>hx b o (cG (Heap.lt_size e)) e
 exact h pins _ σ H xs _ Q I1 (by simpa using rv) hw
def vV(to ti:TE)(t:nk):TG:=λv σ H Q=>to σ H λo H1=>ti σ H1 λi H2=>t o i v H2 λH3=>Q σ H3
theorem lL{o i:Expr}{to ti:TE}{t:nk}(ho:PE X o to)(hi:PE X i ti)(hs:rh X t)
  (ha:∀v,assign (.Subscript o i pos) X.env v=(do
   let ov ←holding [v] (eval o X.env)
   let iv ←holding [v,ov] (eval i X.env)
   standAt pos
   holding [v,ov,iv] (setItem ov iv v)
   release [v,ov,iv] []):=by intro _;rfl):PG X (.Subscript o i pos) (vV to ti t):=by
 intro pins s σ H v u Q I r h;rw [ha];refine wpAny_bind (wpAny_holding (thn (ho pins s σ H _ I h) λov s1 ⟨x,H1,I1,r1,q1⟩=>?_));refine wpAny_bind (wpAny_holding (thn (hi pins s1 σ H1 _ I1 q1) λiv s2 ⟨y,H2,I2,r2,q2⟩=>?_));refine wpAny_bind (wpAny_standAt (wpAny_bind (wpAny_holding (thn (hs pins s2 σ H2 x y v ov iv u _ I2 r1 r2 r q2) λ_ s3 ⟨H3,I3,q3⟩=>?_))));exact wpAny_release ⟨σ,H3,I3,q3⟩
def r8(te:TE)(g:TG):TS:=λD σ H=>te σ H λx H1=>g x σ H1 D.nx
theorem gj{tg e:Expr}{te:TE}{g:TG}(he:PE X e te)(hg:PG X tg g)(hs:swapsWithSole [tg] e pos.line X.env=pure false:=by rfl)(hw:swappedStores [tg] e X.env=pure none:=by rfl)
  (h1:(assignEach [tg] X.env).map (·.2)= [assign tg X.env]:=by rfl):PS X (.Assign [tg] e pos) (r8 te g):=by
 intro pins s σ H D I h;refine wpAny_Assign_stores (thn (he pins s σ H _ I h) λv s1 ⟨x,H1,I1,r1,q1⟩=>?_) hs hw;rw [h1];exact thn (hg pins s1 σ H1 x v _ I1 r1 q1) λ_ s2 q=>q
theorem aH{i:Nat}{x:Str}{e:Expr}{te:TE}{pos':Pos}(hN:X.N.Nodup)(hi:X.N[i]? =some x)(hx:Loc X.env.scope x)(he:PE X e te)(hs:swapsWith e (some (.Name x pos')) pos.line X.env=pure false:=by rfl)(hf:X.fn x=true∨X.env.scope.names.lookup x=some .local:=by first|exact .inl rfl|exact .inr rfl|assumption):
  PS X (.Assign [.Name x pos'] e pos) (r8 te (kD i)):=by
 intro pins s σ H D I h;refine wpAny_Assign_Name (thn (he pins s σ H _ I h) λv s1 ⟨y,H1,I1,r1,q1⟩=>?_) hs;exact ee I1 hN hi hx r1 (λs2 I2=>⟨_,H1,I2,q1⟩) hf
def yj(i:Nat)(te:TE)(ti:pR):TS:=λD σ H=>∃x,σ[i]? =some (some x)∧te σ H λy H1=>ti x y H1 λz H2=>D.nx (σ.set i (some z)) H2
theorem lM{i:Nat}{x:Str}{e:Expr}{te:TE}{op:Operator}{ti:pR}{pos':Pos}(hN:X.N.Nodup)(hi:X.N[i]? =some x)(hx:Loc X.env.scope x)(he:PE X e te)(ho:sr X op ti)(hf:X.fn x=true∨X.env.scope.names.lookup x=some .local:=by first|exact .inl rfl|exact .inr rfl|assumption):
  PS X (.AugAssign (.Name x pos') op e pos) (yj i te ti):=by
 intro pins s σ H D I h;obtain ⟨v,e1,h⟩:=h;obtain ⟨m,hn,hl⟩:=I.loc;have qZ:nq X.env.scope x:=by rcases hx with k|k;exact .inl k;exact .inr (.inl k)
 obtain ⟨u,r,l⟩:=hl i x v hi e1 qZ;refine wpAny_AugAssign_Name ?_
 have go:wpAny (model X.prog X.w) X.A (eval e X.env) (λw pk=>wpAny (model X.prog X.w) X.A (inplaceOp op u w) (λr pq=>wpAny (model X.prog X.w) X.A (storeName X.env x r) (λ_=>SP X pins D .next) X.xe pq) X.xe pk) X.xe s:=by
  refine thn (he pins s σ H _ I h) λw s1 ⟨y,H1,I1,r1,q1⟩=>?_;refine thn (ho pins s1 σ H1 v y u w _ I1 r r1 q1) λz s2 ⟨zv,H2,I2,r2,q2⟩=>?_;exact ee I2 hN hi hx r2 (λs3 I3=>⟨_,H2,I3,q2⟩) hf
 rcases l with ⟨hk,hm⟩ | ⟨hk,c,hc,iW⟩
 ·exact wpAny_loadName_local I.ok.kind hk hn hm go
 ·rcases hk with hk|hk
  ·exact wpAny_loadName_cell I.ok.kind hk hc iW go
  ·rcases hx with k|k
   ·have:X.env.scope.names.lookup x=some .free:=hk
    rw [k] at this;cases this
   ·have:X.env.scope.names.lookup x=some .free:=hk
    rw [k] at this;cases this
def wR(f:Int→Int→Int):pR:=λx y H Q=>∃i j,x= .int i∧y= .int j∧Q (.int (f i j)) H
theorem qk:sr X .Add (wR λi j=>i+j):=by
 intro pins s σ H x y v u Q I r1 r2 h;obtain ⟨i,j,e1,e2,q⟩:=h;subst e1;subst e2;obtain ⟨t,rfl⟩:=r1;obtain ⟨t',rfl⟩:=r2;exact iadd_int ⟨.int _,H,I.tok _,⟨_,rfl⟩,q⟩
theorem ql:sr X .Sub (wR λi j=>i-j):=by
 intro pins s σ H x y v u Q I r1 r2 h;obtain ⟨i,j,e1,e2,q⟩:=h;subst e1;subst e2;obtain ⟨t,rfl⟩:=r1;obtain ⟨t',rfl⟩:=r2;exact isub_int ⟨.int _,H,I.tok _,⟨_,rfl⟩,q⟩
end
section
variable {X:Cx} {pos:Pos}
def lQ(c:TT)(tb:TS):TS:=λD σ H=>∃W:Nat→St→Hp→Prop,(∃m,W m σ H)∧∀m σ H,W m σ H→
 c σ H λb H1=>if b=true then ∃N:St→Hp→Prop,(∀aA H',N aA H'→∃m',m'<m∧W m' aA H')∧tb {D with nx:=N,ct:=N,bk:=D.nx} σ H1 else D.nx σ H1
theorem mM{c:Expr}{body:List Stmt}{tc:TT}{tb:TS}(hp:PassesOwn (model X.prog X.w) X.A X.env X.xe)(hc:PT X c tc)(hb:cz X body tb):PS X (.While c body [] pos) (lQ tc tb):=by
 intro pins s σ H D I h;obtain ⟨W,⟨m0,w0⟩,turn⟩:=h;refine wpAny_While (codeAny_whileLoop (λn s'=>∃aA H',Inv X pins aA H' s'∧W n aA H') ?_ m0 ⟨σ,H,I,w0⟩);rintro n s1 ⟨mY,H1,I1,w1⟩;refine wpAny_passesOwn hp (thn (hc pins s1 mY H1 _ I1 (turn n mY H1 w1)) λb s2 ⟨H2,I2,q2⟩=>?_);cases b with
 |true=>
  obtain ⟨N,hN,q2⟩:=q2;rw [if_pos rfl];refine wpAny_passesOwn hp (thn (hb pins s2 mY H2 _ I2 q2) λf s3 q3=>?_);cases f with
  |next=>
   obtain ⟨hJ,H3,I3,n3⟩:=q3;obtain ⟨m',hm,w3⟩:=hN hJ H3 n3;exact ⟨m',hm,hJ,H3,I3,w3⟩
  |cont=>
   obtain ⟨hJ,H3,I3,n3⟩:=q3;obtain ⟨m',hm,w3⟩:=hN hJ H3 n3;exact ⟨m',hm,hJ,H3,I3,w3⟩
  |brk=>exact q3
  |ret v=>exact q3
 |false=>
  rw [if_neg g9];exact wpAny_execs_nil ⟨mY,H2,I2,q2⟩
end
structure It where
 go:Nat→Hp→Prop
 yld:Nat→Hp→V→Hp→Prop
 stop:Nat→Hp→Prop
def cn(X:Cx)(pins:List (Addr×Obj))(H:Hp)(b:Addr):Prop:=
 H b=none∧b≠X.env.locals∧b∉X.fs∧(b∈X.ex∨X.s₀.heap.objs.size≤b)∧(∀x c,X.env.cells.lookup x=some c→c≠b)∧∀p∈X.pn++pins,p.1≠b
theorem Inv.lx{X:Cx}{pins:List (Addr×Obj)}{σ:St}{H H':Hp}{s:Shared}{b:Addr}(I:Inv X pins σ H s)(hb:s.heap.objs.size≤b)(hn:H' b=none):cn X pins H' b:=by
 refine ⟨hn,Nat.ne_of_gt (el I.lt hb),I.rR hb, .inr (dR I.sz hb),λx c e z=>?_,λp hp z=>?_⟩
 ·obtain ⟨v,q⟩:=I.cell x c e
  exact absurd (el q.lt (by rw [z];exact hb)) (fZ _)
 ·exact absurd (el (Heap.lt_size (I.pin p hp).1) (by rw [z];exact hb)) (fZ _)
structure Turn (P:Program) (w:World) (K:PySem.W.Frag) (tg:Expr) (J:It) (fp:List Addr) (it:Addr) (tn:Nat→Heap→Prop):Prop where
 mem:it∈fp
 obj:∀i h,tn i h→∀b∈fp,∃o,h.get? b=some o∧∀v,o.data≠ .cell v
 keep:∀i h h',tn i h→(∀b∈fp,∀o,h.get? b=some o→h'.get? b=some o)→tn i h'
 item:∀(X:Cx),X.prog=P→X.w=w→X.K=K→X.calm=true→∀(i:Nat)(pins:List (Addr×Obj))(s:Shared)(σ:St)(H:Hp)(E:Value→Shared→Prop),Inv X pins σ H s→(∀b∈fp,cn X pins H b)→tn i s.heap→J.go i H→
  wpAny (model P w) X.A (pyNext (.ref it)) (λr s1=>∃u,r=some u∧
   wpAny (model P w) X.A (letOwnedTupleGo tg (.ref it) u) (λ_ s2=>∃x H',Inv X pins σ H' s2∧RelV x u∧J.yld i H x H'∧tn (i+1) s2.heap∧∀b∈fp,H' b=none) E s1) E s
 done:∀(X:Cx),X.prog=P→X.w=w→X.K=K→X.calm=true→∀(i:Nat)(pins:List (Addr×Obj))(s:Shared)(σ:St)(H:Hp)(E:Value→Shared→Prop),Inv X pins σ H s→(∀b∈fp,cn X pins H b)→tn i s.heap→J.stop i H→
  wpAny (model P w) X.A (pyNext (.ref it)) (λr s1=>r=none∧Inv X pins σ H s1) E s
 self:∀(A:Around)(i:Nat)(s:Shared)(Q:Value→Shared→Prop)(E:Value→Shared→Prop),tn i s.heap→Q (.ref it) s→wpAny (model P w) A (pyIter (.ref it)) Q E s
abbrev TI:=St→Hp→(It→Hp→Prop)→Prop
def uT(X:Cx)(pins:List (Addr×Obj))(σ:St)(tg:Expr)(R:It→Hp→Prop)(mr:Value)(s2:Shared):Prop:=
 ∃(it:Addr)(fp:List Addr)(tn:Nat→Heap→Prop)(J:It)(H':Hp),mr= .ref it∧Inv X pins σ H' s2∧Turn X.prog X.w X.K tg J fp it tn∧tn 0 s2.heap∧(∀b∈fp,cn X pins H' b)∧R J H'
def PI(X:Cx)(tg iter:Expr)(wi:TI):Prop:=
 ∀(pins:List (Addr×Obj))(s:Shared)(σ:St)(H:Hp)(R:It→Hp→Prop),Inv X pins σ H s→wi σ H R→
  wpAny (model X.prog X.w) X.A (eval iter X.env) (λv s1=>wpAny (model X.prog X.w) X.A (pyIter v) (uT X pins σ tg R) X.xe s1) X.xe s
theorem kE{M:Model}{A:Around}{E:Value→Shared→Prop}{s:Shared}{tg:Expr}{it:Addr}{u:Value}{o:Obj}{n:String}{vs:Array Value}{Q:Unit→Shared→Prop}(ho:s.heap.get? it=some o)(hc:o.cls= .type n)(hd:o.data= .fields vs)
  (hn: ["enumerate","zip","dict_itemiterator","dict_reverseitemiterator","odict_iterator","itertools.zip_longest","itertools.pairwise"].contains n=false) (hQ:Q () s):wpAny M A (letOwnedTupleGo tg (.ref it) u) Q E s:=by
 unfold letOwnedTupleGo
 cases tg<;>first
  |exact wpAny_pure hQ
  | (cases u<;>first
    |exact wpAny_pure hQ
    | (refine wpAny_bind (wpAny_load ho ?_)
       rw [hc,hd];show wpAny M A (if (["enumerate","zip","dict_itemiterator","dict_reverseitemiterator","odict_iterator","itertools.zip_longest","itertools.pairwise"].contains n&&vs[0]? ==some (rawInt _))=true then _ else _) Q E s;rw [if_neg (by intro h;rw [hn,Bool.false_and] at h;cases h)]
       exact wpAny_pure hQ))
def l8(K:PySem.W.Frag)(a:Addr):It:=
 ⟨λi H=>∃xs x,ay K H a xs∧xs[i]? =some x,λi H x H'=>H'=H∧∀xs,ay K H a xs→xs[i]? =some x,λi H=>∃xs,ay K H a xs∧xs.length≤i⟩
def so(lo:Int)(n:Nat):It:=⟨λi _=>i<n,λi H x H'=>H'=H∧x= .int (lo+i),λi _=>n≤i⟩
theorem lj{P:Program}{w:World}{K:PySem.W.Frag}{tg:Expr}(a it:Addr):Turn P w K tg (l8 K a) [it] it (λi h=>h.IsListIter it a i) where
 mem:=by simp
 obj:=λi h st b hb=>by
  have e:b=it:=by simpa using hb
  subst e;obtain ⟨o,e,c,d⟩:=st;exact ⟨o,e,λv z=>by rw [d] at z;cases z⟩
 keep:=λi h h' st k=>st.at λo e=>k it (by simp) o e
 item:=by
  intro X hP hw hK hc i pins s σ H E I hf st hg;subst hP hw hK;obtain ⟨xs,x,hq,hx⟩:=hg;obtain ⟨its,rv,p,hz⟩:=I.list hq;obtain ⟨u,hu,ru⟩:=rv.get hx;obtain ⟨f0,f1,f2,f3,f4,f5⟩:=hf it (by simp)
  refine wpAny_pyNext_list_item st p.isList (x:=u) (by simpa using hu) λh' je sb=>?_
  have I1:Inv X pins σ H {s with heap:=h'}:=I.turned (t':=s.toks) (λb o hb e=>(sb.2 b hb).trans e) f0 f1 f3 f4 f5
  obtain ⟨o,e,c,d⟩:=id je;exact ⟨u,rfl,kE (s:={s with heap:=h'}) e c d (by decide) ⟨x,H,I1,ru,⟨rfl,λys hy=>by rw [I.fJ hy hq];exact hx⟩,je,λb hb=>(hf b hb).1⟩⟩
 done:=by
  intro X hP hw hK hc i pins s σ H E I hf st hg;subst hP hw hK;obtain ⟨xs,hq,hx⟩:=hg;obtain ⟨its,rv,p,hz⟩:=I.list hq;obtain ⟨f0,f1,f2,f3,f4,f5⟩:=hf it (by simp)
  have hl:=rv.length;exact wpAny_pyNext_list_end (I.ok.hd hc) st p.isList (by simp;omega) λh' eb=>⟨rfl,I.turned (t':=s.toks) (λb o hb e=>eb b o hb e) f0 f1 f3 f4 f5⟩
 self:=λ_ _ _ _ _ st h=>wpAny_pyIter_listiter st h
theorem j8{P:Program}{w:World}{K:PySem.W.Frag}{tg:Expr}(it:Addr)(lo:Int)(n:Nat):Turn P w K tg (so lo n) [it] it (λi h=>IsRangeIter h it (lo+(i:Nat)*1) ((n:Int)-(i:Nat)) 1) where
 mem:=by simp
 obj:=λi h st b hb=>by
  have e:b=it:=by simpa using hb
  subst e
  exact ⟨_,st,λv z=>by
   have z':Data.fields _=Data.cell v:=z;cases z'⟩
 keep:=λi h h' st k=>k it (by simp) _ st
 item:=by
  intro X hP hw hK hc i pins s σ H E I hf st hg;subst hP hw hK;obtain ⟨f0,f1,f2,f3,f4,f5⟩:=hf it (by simp)
  have W:=Walks.range (prog:=X.prog) (w:=X.w) (I.ok.hd hc) it lo 1 n;refine W.item i s _ _ hg st λv h' tk hv je kk=>?_;obtain ⟨t,rfl⟩:=hv;have I1:Inv X pins σ H {s with heap:=h',toks:=tk}:=I.turned (λb o hb e=>kk b o (by simpa using hb) e) f0 f1 f3 f4 f5
  refine ⟨_,rfl,kE (s:={s with heap:=h',toks:=tk}) (n:="range_iterator") je rfl rfl (by decide) ⟨.int (lo+i),H,I1,⟨t,?_⟩,⟨rfl,rfl⟩,je,λb hb=>(hf b hb).1⟩⟩
  rw [Int.mul_one]
 done:=by
  intro X hP hw hK hc i pins s σ H E I hf st hg;subst hP hw hK;obtain ⟨f0,f1,f2,f3,f4,f5⟩:=hf it (by simp)
  exact wpAny_pyNext_range_end (I.ok.hd hc) st (by have:n≤i:=hg;omega) λh' eb=>⟨rfl,I.turned (t':=s.toks) (λb o hb e=>eb b o hb e) f0 f1 f3 f4 f5⟩
 self:=λ_ _ _ _ _ st h=>wpAny_pyIter_rangeiter st h
section
variable {X:Cx} {tg:Expr}
def tQ(K:PySem.W.Frag)(tl:TE):TI:=λσ H R=>tl σ H λx H1=>∃a,x= .ref a∧(∃xs,ay K H1 a xs)∧R (l8 K a) H1
theorem gM{l:Expr}{tl:TE}(hl:PE X l tl):PI X tg l (tQ X.K tl):=by
 intro pins s σ H R I h;refine thn (hl pins s σ H _ I h) λv s1 ⟨x,H1,I1,r1,q1⟩=>?_;obtain ⟨a,e,⟨xs,hq⟩,q⟩:=q1;subst e;cases r1;obtain ⟨its,rv,p,hz⟩:=I1.list hq;refine wpAny_pyIter_list p.isList ?_;refine ⟨s1.heap.objs.size,[s1.heap.objs.size],_,_,H1,rfl,I1.kept (t':=s1.toks) λb o e=>Heap.get?_push_of_some _ e,lj a _,⟨_,Heap.get?_push_size _ rfl,rfl,rfl⟩,λb hb=>?_,q⟩;have e:b=s1.heap.objs.size:=by simpa using hb
 subst e;exact I1.lx (bx _) (I1.hok.fresh (bx _))
theorem mO{pins:List (Addr×Obj)}{σ:St}{H:Hp}{s:Shared}{R:It→Hp→Prop}{E:Value→Shared→Prop}{lo hi:Int}{t u v:Tok}{tk:Nat}(I:Inv X pins σ H s)(h1: -(2^62)≤lo)(h2:lo<2^62)(h3: -(2^62)≤hi)(h4:hi<2^62)
  (q:R (so lo (hi-lo).toNat) H):wpAny (model X.prog X.w) X.A (pyIter (.ref s.heap.objs.size)) (uT X pins σ tg R) E {s with heap:=s.heap.push {cls:= .type "range",data:= .fields #[.int lo t, .int hi u, .int 1 v]},toks:=tk}:=by
 refine wpAny_pyIter_range (IsRange.new ..) (small_one h1 h2 h3 h4) ?_;have I1:Inv X pins σ H {s with heap:=s.heap.push {cls:= .type "range",data:= .fields #[.int lo t, .int hi u, .int 1 v]},toks:=tk}:=I.kept λb o e=>Heap.get?_push_of_some _ e
 refine ⟨(s.heap.push {cls:= .type "range",data:= .fields #[.int lo t, .int hi u, .int 1 v]}).objs.size,[(s.heap.push {cls:= .type "range",data:= .fields #[.int lo t, .int hi u, .int 1 v]}).objs.size],_,_,H,rfl,
  I1.kept (t':=tk) λb o e=>Heap.get?_push_of_some _ e,j8 _ lo (hi-lo).toNat,?_,λb hb=>?_,q⟩
 ·have e1:lo+((0:Nat):Int)*1=lo:=by simp
  have e2:(((hi-lo).toNat:Nat):Int)-((0:Nat):Int)=Builtin.Range.rangeSize lo hi 1:=by rw [rangeSize_one];split<;>omega
  show IsRangeIter _ _ (lo+((0:Nat):Int)*1) ((((hi-lo).toNat:Nat):Int)-((0:Nat):Int)) 1;rw [e1,e2];exact Heap.get?_push_size _ rfl
 ·have e:b=(s.heap.push {cls:= .type "range",data:= .fields #[.int lo t, .int hi u, .int 1 v]}).objs.size:=by simpa using hb
  subst e;exact I1.lx (bx _) (I1.hok.fresh (bx _))
def tR(ta:TA):TI:=λσ H R=>ta σ H λvs H1=>∃j:Int,vs= [.int j]∧-(2^62)≤j∧j<2^62∧R (so 0 j.toNat) H1
theorem dm{a:Expr}{ta:TA}{p pos:Pos}(hg:Gl X "range")(hm:X.mg "range"=none)(ha:PA X [a] ta)(hs:starEach [a] X.env= [(false,eval a X.env)]:=by rfl):PI X tg (.Call (.Name "range" p) [a] [] pos) (tR ta):=by
 intro pins s σ H R I h;refine Call_ (dW I hg hm boot_range (PyProof.Rows.callWith_type1 (thn (ha pos pins s σ H _ I h) λus s1 ⟨vs,H1,I1,r1,q1⟩=>?_) hs rfl));obtain ⟨j,e,q1,q2,q⟩:=q1;subst e;cases r1 with
 |cons r rr=>
  cases rr;obtain ⟨t,rfl⟩:=r;exact call_range_1 (mO I1 (by omega) (by omega) q1 q2 (by simpa using q))
def yl(wi:TI)(g:TG)(tb:TS):TS:=λD σ H=>wi σ H λJ H1=>∃W:Nat→Nat→St→Hp→Prop,(∃m,W 0 m σ H1)∧∀i m σ H,W i m σ H→
 (J.stop i H∧D.nx σ H)∨(J.go i H∧∃N:St→Hp→Prop,(∀aA H',N aA H'→∃m',m'<m∧W (i+1) m' aA H')∧∀x H',J.yld i H x H'→g x σ H' λdt H2=>tb {D with nx:=N,ct:=N,bk:=D.nx} dt H2)
def fv(fp:List Addr)(h:Heap):List (Addr×Obj):=fp.filterMap λb=>(h.get? b).map λo=>(b,o)
theorem cO{fp:List Addr}{h:Heap}{b:Addr}{o:Obj}(hb:b∈fp)(e:h.get? b=some o):(b,o)∈fv fp h:=List.mem_filterMap.mpr ⟨b,hb,by rw [e];rfl⟩
theorem kP{fp:List Addr}{h:Heap}{p:Addr×Obj}(hp:p∈fv fp h):p.1∈fp∧h.get? p.1=some p.2:=by
 obtain ⟨b,hb,e⟩:=List.mem_filterMap.mp hp;cases q:h.get? b with
 |none=>rw [q] at e;cases e
 |some o=>
  rw [q] at e;have e':(b,o)=p:=Option.some.inj e;subst e';exact ⟨hb,q⟩
theorem Inv.pinned{pins:List (Addr×Obj)}{σ:St}{H:Hp}{s:Shared}{fp:List Addr}(I:Inv X pins σ H s)(hf:∀b∈fp,cn X pins H b)(ho:∀b∈fp,∃o,s.heap.get? b=some o∧∀v,o.data≠ .cell v):Inv X (pins++fv fp s.heap) σ H s:=
 I.fw λp hp=>(List.mem_append.mp hp).elim (λz=>I.pin p (eR _ z)) λz=>by
  obtain ⟨hb,e⟩:=kP z;obtain ⟨f0,f1,f2,_⟩:=hf p.1 hb;obtain ⟨o,e',d⟩:=ho p.1 hb;rw [e] at e';cases e';exact ⟨e,f0,f1,f2,d⟩
theorem Inv.ef{pins pl:List (Addr×Obj)}{σ:St}{H:Hp}{s:Shared}(I:Inv X (pins++pl) σ H s):Inv X pins σ H s:=I.fw λp hp=>I.pin p (eR _ (lS _ hp))
theorem gm{iter:Expr}{body:List Stmt}{wi:TI}{g:TG}{tb:TS}{pos:Pos}(hp:PassesOwn (model X.prog X.w) X.A X.env X.xe)(hc:X.calm=true)(hi:PI X tg iter wi)(hg:PG X tg g)(hb:cz X body tb)
  (hs:∀x,foldedSetIterable iter X.env x=pure x:=by intro _;rfl):PS X (.For tg iter body [] pos) (yl wi g tb):=by
 intro pins s σ H D I h;refine wpAny_For (thn (hi pins s σ H _ I h) λv s1 h1=>thn h1 λmr s2 h2=>?_) hs;obtain ⟨it,fp,tn,J,H2,e,I2,T,ip,f2,W,⟨m0,w0⟩,turn⟩:=h2;subst e;have stat:∀{H':Hp},(∀b∈fp,H' b=none)→∀b∈fp,cn X pins H' b:=λhn b hb=>⟨hn b hb,(f2 b hb).2⟩;refine codeAny_forLoop_any (λn s'=>∃i aA H',Inv X pins aA H' s'∧tn i s'.heap∧(∀b∈fp,H' b=none)∧W i n aA H') ?_ m0 ⟨0,σ,H2,I2,ip,λb hb=>(f2 b hb).1,w0⟩;rintro n s3 ⟨i,hJ,H3,I3,pj,vT,w3⟩
 rcases turn i n hJ H3 w3 with ⟨stop,qn⟩ | ⟨go,N,hN,step⟩
 ·refine wpAny_passesOwn hp (thn (T.done X rfl rfl rfl hc i pins s3 hJ H3 X.xe I3 (stat vT) pj stop) λr s4 ⟨hr,I4⟩=>?_)
  subst hr;exact wpAny_execs_nil ⟨hJ,H3,I4,qn⟩
 ·refine wpAny_passesOwn hp (thn (T.item X rfl rfl rfl hc i pins s3 hJ H3 X.xe I3 (stat vT) pj go) λr s4 ⟨u,hr,h4⟩=>?_)
  subst hr;refine wpAny_passesOwn hp (thn h4 λ_ s5 ⟨x,H5,I5,r5,y5,mT,p9⟩=>?_);have sk:=I5.pinned (stat p9) (T.obj _ _ mT);refine wpAny_passesOwn hp (thn (hg _ s5 hJ H5 x u _ sk r5 (step x H5 y5)) λ_ s6 ⟨Es,H6,I6,q6⟩=>?_);refine wpAny_passesOwn hp (thn (hb _ s6 Es H6 _ I6 q6) λf s7 q7=>?_)
  have again:∀{hR:St}{H7:Hp},Inv X (pins++fv fp s5.heap) hR H7 s7→N hR H7→∃m,m<n∧∃i aA H',Inv X pins aA H' s7∧tn i s7.heap∧(∀b∈fp,H' b=none)∧W i m aA H':=λ {hR H7} I7 n7=>by
   obtain ⟨m',hm,w7⟩:=hN hR H7 n7;refine ⟨m',hm,i+1,hR,H7,I7.ef,T.keep _ _ _ mT λb hb o e=>(I7.pin (b,o) (eR _ (eR _ (cO hb e)))).1,λb hb=>?_,w7⟩;obtain ⟨o,e,d⟩:=T.obj _ _ mT b hb;exact (I7.pin (b,o) (eR _ (eR _ (cO hb e)))).2.1
  cases f with
  |next=>obtain ⟨hR,H7,I7,n7⟩:=q7;exact again I7 n7
  |cont=>obtain ⟨hR,H7,I7,n7⟩:=q7;exact again I7 n7
  |brk=>obtain ⟨hR,H7,I7,q7⟩:=q7;exact ⟨hR,H7,I7.ef,q7⟩
  |ret v=>obtain ⟨x7,hR,H7,I7,r7,q7⟩:=q7;exact ⟨x7,hR,H7,I7.ef,r7,q7⟩
end
theorem iz{K:PySem.W.Frag}{a:Addr}{xs:List V}{g:TG}{tb:TS}{D:Ends}{σ:St}{H:Hp}(Pv:Nat→St→Hp→Prop)(h0:Pv 0 σ H)(hl:∀i σ H,i≤xs.length→Pv i σ H→ay K H a xs)
  (hs:∀i x σ H,xs[i]? =some x→Pv i σ H→g x σ H λdt H2=>tb {D with nx:=Pv (i+1),ct:=Pv (i+1),bk:=D.nx} dt H2) (hd:∀σ H,Pv xs.length σ H→D.nx σ H):
  ∃W:Nat→Nat→St→Hp→Prop,(∃m,W 0 m σ H)∧∀i m σ H,W i m σ H→
   ((l8 K a).stop i H∧D.nx σ H)∨((l8 K a).go i H∧∃N:St→Hp→Prop,(∀aA H',N aA H'→∃m',m'<m∧W (i+1) m' aA H')∧∀x H',(l8 K a).yld i H x H'→g x σ H' λdt H2=>tb {D with nx:=N,ct:=N,bk:=D.nx} dt H2):=by
 refine ⟨λi m σ H=>m=xs.length-i∧i≤xs.length∧Pv i σ H,⟨xs.length,by simp,Nat.zero_le _,h0⟩,?_⟩
 rintro i m σ H ⟨rfl,hi,p⟩;have q:=hl i σ H hi p
 by_cases ek:i<xs.length
 ·refine .inr ⟨⟨xs,xs[i],q,by simp [ek]⟩,Pv (i+1),λaA H' p'=>⟨xs.length-(i+1),by omega,rfl,ek,p'⟩,λx H' y=>?_⟩
  obtain ⟨e,y⟩:=y;subst e;exact hs i x σ _ (y xs q) p
 ·have e:i=xs.length:=by omega
  subst e;exact .inl ⟨⟨xs,q,bx _⟩,hd σ H p⟩
abbrev R2:=V→V→Hp→VK→Prop
def OpR(X:Cx)(f:Value→Value→Sem Value)(r:R2):Prop:=
 ∀(pins:List (Addr×Obj))(s:Shared)(σ:St)(H:Hp)(x y:V)(v u:Value)(Q:VK),Inv X pins σ H s→RelV x v→RelV y u→r x y H Q→
  wpAny (model X.prog X.w) X.A (f v u) (EP X pins σ Q) X.xe s
def CallR(X:Cx)(f:Value)(r:List V→Hp→VK→Prop):Prop:=
 ∀(pins:List (Addr×Obj))(s:Shared)(σ:St)(H:Hp)(xs:List V)(us:List Value)(Q:VK),Inv X pins σ H s→Vals xs us→r xs H Q→
  wpAny (model X.prog X.w) X.A (call f us) (EP X pins σ Q) X.xe s
def uY(X:Cx)(r:V→Hp→(Bool→Hp→Prop)→Prop):Prop:=
 ∀(pins:List (Addr×Obj))(s:Shared)(σ:St)(H:Hp)(x:V)(v:Value)(Q:Bool→Hp→Prop),Inv X pins σ H s→RelV x v→r x H Q→
  wpAny (model X.prog X.w) X.A (truthy v) (TP X pins σ Q) X.xe s
def pA(r:R2)(ta tb:TE):TE:=λσ H Q=>ta σ H λx H1=>tb σ H1 λy H2=>r x y H2 Q
def rI(C:Int→Int→Prop)(g:Int→Int→V):R2:=λx y H Q=>∃i j,x= .int i∧y= .int j∧C i j∧Q (g i j) H
def kZ(g:Int→Int→V):R2:=λx y H Q=>∃i j,x= .int i∧y= .int j∧Q (g i j) H
section
variable {X:Cx} {a b c:Expr} {ta tb tc:TE} {pos:Pos}
theorem nB(ha:PE X a ta)(hb:PE X b tb){pins:List (Addr×Obj)}{s:Shared}{σ:St}{H:Hp}{R:V→V→Hp→Prop}(I:Inv X pins σ H s)
  (h:ta σ H λx H1=>tb σ H1 λy H2=>R x y H2) {Q:Value→Shared→Prop} {f:Value→Value→Sem Value}
  (hf:∀v u s2 x y H2,Inv X pins σ H2 s2→RelV x v→RelV y u→R x y H2→wpAny (model X.prog X.w) X.A (f v u) Q X.xe s2):
  wpAny (model X.prog X.w) X.A (eval a X.env) (λv s₁=>wpAny (model X.prog X.w) X.A (eval b X.env) (λu pk=>wpAny (model X.prog X.w) X.A (f v u) Q X.xe pk) X.xe s₁) X.xe s:=by
 refine thn (ha pins s σ H _ I h) λv s1 ⟨x,H1,I1,r1,q1⟩=>?_;refine thn (hb pins s1 σ H1 _ I1 q1) λu s2 ⟨y,H2,I2,r2,q2⟩=>?_;exact hf v u s2 x y H2 I2 r1 r2 q2
theorem aD{op:Operator}{r:R2}(ho:OpR X (binaryOp op) r)(ha:PE X a ta)(hb:PE X b tb):PE X (.BinOp a op b pos) (pA r ta tb):=by
 intro pins s σ H Q I h;exact wpAny_BinOp (nB ha hb I h λv u s2 x y H2 I2 rx ry q=>ho pins s2 σ H2 x y v u Q I2 rx ry q)
theorem xT{f:Value→Value→Sem Value}{C:Int→Int→Prop}{g:Int→Int→Int}
  (rule:∀(i j:Int)(t u:Tok)(s:Shared)(Q:Value→Shared→Prop)(E:Value→Shared→Prop),C i j→Q (.int (g i j) s.toks) {s with toks:=s.toks+1}→wpAny (model X.prog X.w) X.A (f (.int i t) (.int j u)) Q E s):
  OpR X f (rI C λi j=> .int (g i j)):=by
 intro pins s σ H x y v u Q I rx ry h;obtain ⟨i,j,rfl,rfl,hc,q⟩:=h;obtain ⟨t,rfl⟩:=rx;obtain ⟨t',rfl⟩:=ry;exact rule i j t t' s _ _ hc ⟨.int (g i j),H,I.tok _,⟨_,rfl⟩,q⟩
theorem rU{f:Value→Value→Sem Value}{g:Int→Int→Int}
  (rule:∀(i j:Int)(t u:Tok)(s:Shared)(Q:Value→Shared→Prop)(E:Value→Shared→Prop),Q (.int (g i j) s.toks) {s with toks:=s.toks+1}→wpAny (model X.prog X.w) X.A (f (.int i t) (.int j u)) Q E s):
  OpR X f (kZ λi j=> .int (g i j)):=by
 intro pins s σ H x y v u Q I rx ry h;obtain ⟨i,j,rfl,rfl,q⟩:=h;obtain ⟨t,rfl⟩:=rx;obtain ⟨t',rfl⟩:=ry;exact rule i j t t' s _ _ ⟨.int (g i j),H,I.tok _,⟨_,rfl⟩,q⟩
theorem rT{f:Value→Value→Sem Value}{g:Int→Int→Bool}
  (rule:∀(i j:Int)(t u:Tok)(s:Shared)(Q:Value→Shared→Prop)(E:Value→Shared→Prop),Q (.bool (g i j)) s→wpAny (model X.prog X.w) X.A (f (.int i t) (.int j u)) Q E s):
  OpR X f (kZ λi j=> .bl (g i j)):=by
 intro pins s σ H x y v u Q I rx ry h;obtain ⟨i,j,rfl,rfl,q⟩:=h;obtain ⟨t,rfl⟩:=rx;obtain ⟨t',rfl⟩:=ry;exact rule i j t t' s _ _ ⟨.bl (g i j),H,I,rfl,q⟩
def uM(i j:Int):Prop:=0<j∧j<1073741824
theorem bX:OpR X (binaryOp .Add) (kZ λi j=> .int (i+j)):=rU λ_ _ _ _ _ _ _ q=>add_int q
theorem fq:OpR X (binaryOp .Sub) (kZ λi j=> .int (i-j)):=rU λ_ _ _ _ _ _ _ q=>sub_int q
theorem fo:OpR X (binaryOp .FloorDiv) (rI uM λi j=> .int (i / j)):=xT λi j _ _ _ _ _ hc q=>by
 have h1:(0:Int)<j:=hc.1;have h2:j<1073741824:=hc.2;exact floordiv_int (by omega) (by rw [Int.fdiv_eq_ediv_of_nonneg i (by omega)];exact q) (.inl (PyProof.noPylong_small (by omega)))
theorem bO:OpR X (binaryOp .Mod) (rI (λ_ j=>0<j) λi j=> .int (i%j)):=xT λi j _ _ _ _ _ hc q=>by
 have h1:(0:Int)<j:=hc;exact mod_int' (by omega) (by rw [Int.fmod_eq_emod_of_nonneg i (by omega)];exact q)
end
def ya:V→V→Bool
 | .aC, .aC=>true| .aC, .int _=>true| .int _, .aC=>true| .aC, .bl _=>true| .bl _, .aC=>true| .aC, .str _=>true| .str _, .aC=>true
 | .int _, .int _=>true| .bl _, .bl _=>true| .str _, .str _=>true| .gb _, .gb _=>true
 | .int _, .str _=>true| .str _, .int _=>true| .bl _, .str _=>true| .str _, .bl _=>true
 |_,_=>false
def DO:R2:=λx y H Q=>ya x y=true∧Q (.bl (decide (x=y))) H
theorem nN{i j:Int}:decide (V.int i=V.int j)=(i==j):=by
 rw [kg];simp
theorem pW{i j:Bool}:decide (V.bl i=V.bl j)=(i==j):=by
 rw [kg];simp
theorem nO{i j:Str}:decide (V.str i=V.str j)=(i==j):=by
 rw [kg];simp
theorem nK{i j:Array UInt8}:decide (V.gb i=V.gb j)=(i.toList==j.toList):=by
 rw [kg];cases i;cases j;simp
section
variable {X:Cx} {a b c:Expr} {ta tb tc:TE} {pos:Pos}
theorem bc{pins:List (Addr×Obj)}{σ:St}{H:Hp}{s:Shared}{Q:VK}{k k':Bool}(I:Inv X pins σ H s)(q:Q (.bl k) H)(e:k=k'):EP X pins σ Q (.bool k') s:=by
 subst e;exact ⟨.bl k,H,I,rfl,q⟩
theorem eM:OpR X (compareOp .Eq) DO:=by
 intro pins s σ H x y v u Q I rx ry h;obtain ⟨hs,q⟩:=h;cases x with
 |aC=>
  cases rx;cases y with
  |aC=>cases ry;exact PySem.EqNone.eq_none_none (bc I q (by simp))
  |bl j=>cases ry;exact PySem.EqNone.eq_none_bool (bc I q (by simp))
  |int j=>obtain ⟨t',rfl⟩:=ry;exact PySem.EqNone.eq_none_int (bc I q (by simp))
  |str j=>obtain ⟨t',rfl⟩:=ry;exact PySem.EqNone.eq_none_str (bc I q (by simp))
  |_=>exact absurd (show false=true from hs) g9
 |bl i=>
  cases rx;cases y with
  |aC=>cases ry;exact PySem.EqNone.eq_bool_none (bc I q (by simp))
  |bl j=>cases ry;exact eq_bool (bc I q pW)
  |str j=>obtain ⟨t',rfl⟩:=ry;exact PySem.EqMixed.eq_bool_str (bc I q (by simp))
  |_=>exact absurd (show false=true from hs) g9
 |int i=>
  obtain ⟨t,rfl⟩:=rx;cases y with
  |aC=>cases ry;exact PySem.EqNone.eq_int_none (bc I q (by simp))
  |int j=>obtain ⟨t',rfl⟩:=ry;exact eq_int (bc I q nN)
  |str j=>obtain ⟨t',rfl⟩:=ry;exact PySem.EqMixed.eq_int_str (bc I q (by simp))
  |_=>exact absurd (show false=true from hs) g9
 |str i=>
  obtain ⟨t,rfl⟩:=rx;cases y with
  |aC=>cases ry;exact PySem.EqNone.eq_str_none (bc I q (by simp))
  |bl j=>cases ry;exact PySem.EqMixed.eq_str_bool (bc I q (by simp))
  |int j=>obtain ⟨t',rfl⟩:=ry;exact PySem.EqMixed.eq_str_int (bc I q (by simp))
  |str j=>obtain ⟨t',rfl⟩:=ry;exact eq_str (bc I q nO)
  |_=>exact absurd (show false=true from hs) g9
 |gb i=>
  obtain ⟨t,rfl⟩:=rx;cases y with
  |gb j=>obtain ⟨t',rfl⟩:=ry;exact PySem.W.eq_bytes (bc I q nK)
  |_=>exact absurd (show false=true from hs) g9
 |_=>cases y<;>exact absurd (show false=true from hs) g9
theorem t7:OpR X (compareOp .Lt) (kZ λi j=> .bl (decide (i<j))):=rT λ_ _ _ _ _ _ _ q=>lt_int q
theorem t6:OpR X (compareOp .Gt) (kZ λi j=> .bl (decide (j<i))):=rT λ_ _ _ _ _ _ _ q=>gt_int q
theorem bG(b:Expr){op:CmpOp}(h:op≠ .In:=by decide)(h2:op≠ .NotIn:=by decide):behindInMarks op b=false:=by
 have e1:(op==CmpOp.In)=false:=by cases op<;>first|rfl|exact absurd rfl h
 have e2:(op==CmpOp.NotIn)=false:=by cases op<;>first|rfl|exact absurd rfl h2
 cases b<;>simp [behindInMarks,e1,e2]
theorem fu{op:CmpOp}{r:R2}(ho:OpR X (compareOp op) r)(ha:PE X a ta)(hb:PE X b tb)(hm:behindInMarks op b=false):PE X (.Compare a [op] [b] pos) (pA r ta tb):=by
 intro pins s σ H Q I h;exact wpAny_Compare1 (nB ha hb I h λv u s2 x y H2 I2 rx ry q=>ho pins s2 σ H2 x y v u Q I2 rx ry q) hm
def pD(t:TE):TT:=λσ H Q=>t σ H λx H'=>∃k,x= .bl k∧Q k H'
theorem bY{op:CmpOp}{r:R2}(ho:OpR X (compareOp op) r)(ha:PE X a ta)(hb:PE X b tb)(hm:behindInMarks op b=false):PT X (.Compare a [op] [b] pos) (pD (pA r ta tb)):=by
 intro pins s σ H Q I h
 refine wpAny_isTrue_Compare1 (thn (ha pins s σ H _ I h) λv s1 ⟨x,H1,I1,r1,q1⟩=>thn (hb pins s1 σ H1 _ I1 q1) λu s2 ⟨y,H2,I2,r2,q2⟩=>
  thn (ho pins s2 σ H2 x y v u _ I2 r1 r2 q2) λc s3 ⟨z,H3,I3,r3,k,e,q3⟩=>?_) hm
 subst e;cases r3;exact wpAny_truthy_bool ⟨H3,I3,q3⟩
def rl(K:PySem.W.Frag)(x:V)(H:Hp)(k:Bool):Prop:=
 match x with
 | .aC=>k=false
 | .bl b=>k=b
 | .int i=>k=(i !=0)
 | .str y=>y.length≤sizeLine∧k=((y.length:Int) !=0)
 | .gb y=>y.size≤sizeLine∧k=((y.size:Int) !=0)
 | .ref p=>(∃xs,ay K H p xs∧k= !xs.isEmpty)∨(∃xs,bF K H p xs∧k= !xs.isEmpty)∨∃aZ,H p=some (.dK aZ)∧k= !aZ.isEmpty
 |_=>False
theorem jH{κ:Type}{aZ:List (κ×V)}{vs:List (κ×Value)}(r:KV aZ vs):(!vs.isEmpty)= !aZ.isEmpty:=by
 cases r<;>rfl
theorem fT{xs:List V}{its:List Value}(r:Vals xs its):(!its.toArray.isEmpty)= !xs.isEmpty:=by
 cases r<;>simp
theorem ff:(sizeLine:Nat)<2^63:=by rw [sizeLine_eq];decide
theorem qW:uY X (λx H Q=>∃k,rl X.K x H k∧Q k H):=by
 intro pins s σ H x v Q I rx h;obtain ⟨k,e,q⟩:=h;have hl:=ff;have hs:sizeLine=16777216:=sizeLine_eq;cases x with
 |aC=>
  cases rx;have e':k=false:=e;subst e';exact truthy_none ⟨H,I,q⟩
 |bl b=>
  cases rx;have e':k=b:=e;subst e';exact wpAny_truthy_bool ⟨H,I,q⟩
 |int i=>
  obtain ⟨t,rfl⟩:=rx;have e':k=(i !=0):=e;subst e';exact PySem.P.truthy_int ⟨H,I,q⟩
 |str y=>
  obtain ⟨t,rfl⟩:=rx;obtain ⟨hy,e'⟩:y.length≤sizeLine∧k=((y.length:Int) !=0):=e;subst e';exact PySem.P.truthy_str (by omega) ⟨H,I.tok _,q⟩
 |gb y=>
  obtain ⟨t,rfl⟩:=rx;obtain ⟨hy,e'⟩:y.size≤sizeLine∧k=((y.size:Int) !=0):=e;subst e';exact PySem.W.truthy_bytes (by omega) ⟨H,I.tok _,q⟩
 |ref p=>
  cases rx;have e':(∃xs,ay X.K H p xs∧k= !xs.isEmpty)∨(∃xs,bF X.K H p xs∧k= !xs.isEmpty)∨∃aZ,H p=some (.dK aZ)∧k= !aZ.isEmpty:=e
  rcases e' with ⟨xs,hx,e'⟩ | ⟨xs,hx,e'⟩ | ⟨aZ,hx,e'⟩
  ·subst e'
   obtain ⟨its,r,pl,hz⟩:=I.list hx;have hlen:=r.length;exact wpAny_truthy_list pl.isList (by simp only [cH];omega) ⟨H,I.tok _,by rw [fT r];exact q⟩
  ·subst e'
   obtain ⟨its,r,pl,hz⟩:=I.tuple hx;have hlen:=r.length;exact truthy_tuple pl (by simp only [cH];omega) ⟨H,I.tok _,by rw [fT r];exact q⟩
  ·subst e'
   obtain ⟨hz,hS,vs,r,m⟩:aZ.length≤sizeLine∧(p==sysModules)=false∧∃vs,KV aZ vs∧s.heap.DictOf (gJ X.prog X.w) p vs:=I.hok p _ hx;have hlen:aZ.length=vs.length:=Paired.length r;exact wpAny_truthy_dict hS m (by omega) ⟨H,I.tok _,by rw [jH r];exact q⟩
 |_=>exact (show False from e).elim
theorem mN(ha:PE X a ta)(he:∀whole,isTrue a X.env whole=(do let v ←whole;standAt a.pos;holding [v] (truthy v))):
  PT X a (λσ H Q=>ta σ H λx H'=>∃k,rl X.K x H' k∧Q k H'):=by
 intro pins s σ H Q I h;exact isTrue_plain (thn (ha pins s σ H _ I h) λv s1 ⟨x,H1,I1,r1,q1⟩=>qW pins s1 σ H1 x v Q I1 r1 q1) (he _)
theorem vals1{x:V}{us:List Value}(r:Vals [x] us):∃u,us= [u]∧RelV x u:=by
 cases r with
 |cons r1 r2=>cases r2;exact ⟨_,rfl,r1⟩
end
structure nh (h:Heap) (x dx C:Addr) (mA:Str→Option Value):Prop where
 obj:h.get? x=some (PySem.W.instObj C dx)
 ns:h.Ns1 dx mA
 ne:dx≠x
theorem eI{h:Heap}{dx:Addr}{mA:Str→Option Value}(n:h.Ns1 dx mA):∃od,h.get? dx=some od∧∀name,PySem.W.lookIn name od=some (mA name):=by
 obtain ⟨o,es,ep,ho,hd,hk,_,hm⟩:=n;refine ⟨o,ho,λname=>?_⟩;have e:=hm name;unfold nsFind findBy at e;rw [←Array.find?_toList] at e;unfold PySem.W.lookIn;rw [hd];dsimp only
 split
 ·rename_i y q
  rw [q] at e;exact congrArg some e
 ·rename_i q
  rw [q] at e
  have a:es.toList.any (·.refKey)=false:=by
   rw [List.any_eq_false];intro y hy;obtain ⟨z,t,wy⟩:=hk y (Array.mem_toList_iff.mp hy);simp [DictEntry.refKey,wy]
  have a':¬es.toList.any (·.refKey)=true:=by rw [a];exact g9
  rw [if_neg a'];exact congrArg some e
theorem nh.look{h:Heap}{x dx C:Addr}{mA:Str→Option Value}(I:nh h x dx C mA):∃od,PySem.W.InstAt h x (PySem.W.instObj C dx) C (some od)∧∀name,PySem.W.lookIn name od=some (mA name):=
 let ⟨od,ho,hl⟩:=eI I.ns
 ⟨od,⟨I.obj,rfl,rfl,ho⟩,hl⟩
section
variable {prog:Program} {w:World} {A:Around} {E:Value→Shared→Prop} {s:Shared} {K:PySem.W.Frag} {x dx C f:Addr} {mA:Str→Option Value} {name:Str} {v:Value}
end
def cp(f:Str)(v:V):List (Str×V)→List (Str×V)
 | []=> [(f,v)]
 | (g,x)::r=>if g=f then (g,v)::r else (g,x)::cp f v r
theorem fg(f g:Str)(v:V):∀fs:List (Str×V),(cp f v fs).lookup g=if g=f then some v else fs.lookup g
 | []=>by
  show List.lookup g [(f,v)]=_
  by_cases h:g=f
  ·have hb:(g==f)=true:=beq_iff_eq.mpr h
   simp only [List.lookup,hb,if_pos h]
  ·have hb:(g==f)=false:=beq_eq_false_iff_ne.mpr h
   simp only [List.lookup,hb,if_neg h]
 | (k,x)::r=>by
  have ih:=fg f g v r;rw [show cp f v ((k,x)::r)=(if k=f then (k,v)::r else (k,x)::cp f v r) from rfl]
  by_cases hk:k=f
  ·rw [if_pos hk]
   by_cases h:g=k
   ·have hb:(g==k)=true:=beq_iff_eq.mpr h
    simp only [List.lookup,hb,if_pos (h.trans hk)]
   ·have hb:(g==k)=false:=beq_eq_false_iff_ne.mpr h
    simp only [List.lookup,hb,if_neg (λe:g=f=>h (e.trans hk.symm))]
  ·rw [if_neg hk]
   by_cases h:g=k
   ·have hb:(g==k)=true:=beq_iff_eq.mpr h
    simp only [List.lookup,hb,if_neg (λe:g=f=>hk (h.symm.trans e))]
   ·have hb:(g==k)=false:=beq_eq_false_iff_ne.mpr h
    simp only [List.lookup,hb];exact ih
theorem eH(f:Str)(v:V):∀fs:List (Str×V),f∈(cp f v fs).map (·.1)∧∀g,g∈fs.map (·.1)→g∈(cp f v fs).map (·.1)
 | []=>⟨by simp [cp],λg h=>by simp at h⟩
 | (k,x)::r=>by
  obtain ⟨i1,i2⟩:=eH f v r;rw [show cp f v ((k,x)::r)=(if k=f then (k,v)::r else (k,x)::cp f v r) from rfl]
  by_cases hk:k=f
  ·rw [if_pos hk]
   subst hk;exact ⟨by simp,λg h=>by simpa using h⟩
  ·rw [if_neg hk]
   refine ⟨?_,λg h=>?_⟩
   ·rw [List.map_cons]
    exact dB _ i1
   ·rw [List.map_cons] at h ⊢
    rcases cF.mp h with e|e
    ·exact cF.mpr (.inl e)
    ·exact dB _ (i2 g e)
theorem fe(f:Str)(v:V):∀fs:List (Str×V),(cp f v fs).length≤fs.length+1
 | []=>by simp [cp]
 | (k,x)::r=>by
  have ih:=fe f v r;rw [show cp f v ((k,x)::r)=(if k=f then (k,v)::r else (k,x)::cp f v r) from rfl]
  by_cases hk:k=f
  ·rw [if_pos hk,fP,fP];omega
  ·rw [if_neg hk,fP,fP];omega
theorem eT.some_of{v:V}{o:Option Value}(r:eT (some v) o):∃u,o=some u∧RelV v u:=by
 cases o with
 |none=>exact (show False from r).elim
 |some u=>exact ⟨u,rfl,r⟩
theorem kF{v:V}{u:Value}(r:RelV v u):PySem.W.handedIn u=true:=by
 cases v with
 |aC=>cases (show u=Value.none from r);rfl
 |bl b=>cases (show u=Value.bool b from r);rfl
 |int i=>obtain ⟨t,e⟩:=(show ∃t,u=Value.int i t from r);cases e;rfl
 |str x=>obtain ⟨t,e⟩:=(show ∃t,u=Value.str x t from r);cases e;rfl
 |gb b=>obtain ⟨t,e⟩:=(show ∃t,u=Value.bytes b t from r);cases e;rfl
 |jz b=>obtain ⟨t,e⟩:=(show ∃t,u=Value.float b t from r);cases e;rfl
 |ref a=>cases (show u=Value.ref a from r);rfl
 |ty n=>cases (show u=Value.type n from r);rfl
section
variable {P:Program} {w:World} {H H':Hp} {h h':Heap} {a C dx:Addr} {fs zS:List (Str×V)}
theorem jG(hok:bT P w H h)(e:H a=some (.ins C dx fs)):∃mA,nh h a dx C mA∧(∀f,eT (fs.lookup f) (mA f))∧PySem.Within mA (fs.map (·.1))∧fs.length≤1000∧H dx=some (.own a):=by
 obtain ⟨d,z,ne,ob,mA,n,r,q⟩:=(show aI P w H h a (.ins C dx fs) from hok a _ e);exact ⟨mA,⟨ob,n,ne⟩,r,q,z,d⟩
end
structure sh (K:PySem.W.Frag) (C:Addr):Prop where
 pg:PySem.W.plainGet K C Str.empty=true
 hd:PySem.W.hasDictIn K C=true
 po:PySem.W.plainOver K C=true
 sa:PySem.W.findIn K (.ref C) "__setattr__"=some (some (.builtin "object.__setattr__"))
theorem sh.get{K:PySem.W.Frag}{C:Addr}(c:sh K C)(f:Str):PySem.W.plainGet K C f=true:=c.pg
def av(K:PySem.W.Frag)(C:Addr)(f:Str):Prop:=PySem.W.findIn K (.ref C) f=some none
theorem av.pG{K:PySem.W.Frag}{C:Addr}{f:Str}(n:av K C f):PySem.W.takerIn K C f=some none:=by
 unfold PySem.W.takerIn;rw [show PySem.W.findIn K (.ref C) f=some none from n];rfl
section
variable {X:Cx} {pins:List (Addr×Obj)} {σ:St} {H:Hp} {s:Shared} {a C dx:Addr} {fs:List (Str×V)} {f:Str} {v:V} {A:Around} {E:Value→Shared→Prop}
theorem nz{prog:Program}{w:World}{env:Env}{e:Expr}{f:Str}{pos:Pos}{s:Shared}{Q:Value→Shared→Prop}(hb:attributeBase e f env (eval e env)=eval e env)
  (h:wpAny (model prog w) A (eval e env) (λo s₁=>wpAny (model prog w) A (getAttr o f true) Q E s₁) E s):wpAny (model prog w) A (eval (.Attribute e f pos) env) Q E s:=
 Attribute_any_ h (by rw [arm_eval_Attribute,hb])
end
section
variable {X:Cx} {o e value:Expr} {f:Str} {pos pos' yt:Pos} {ta tv:TE}
end
section
variable {X:Cx} {pins:List (Addr×Obj)} {σ:St} {H:Hp} {s:Shared} {A:Around} {E:Value→Shared→Prop} {Q:Value→Shared→Prop} {c:Value} {b:Bool}
inductive bD (K:PySem.W.Frag) (H:Hp):V→Value→Prop where
 |aC:bD K H .aC (.type "NoneType")
 |bl (x:Bool):bD K H (.bl x) (.type "bool")
 |int (i:Int):bD K H (.int i) (.type "int")
 |str (x:Str):bD K H (.str x) (.type "str")
 |jz (x:UInt64):bD K H (.jz x) (.type "float")
 |lst {a:Addr} {xs:List V} (e:H a=some (.lst xs)):bD K H (.ref a) (.type "list")
 |dG {a:Addr} {o:Obj} {xs:List V} (e:H a=some (.dG o (.lst xs))):bD K H (.ref a) (.type "list")
 |tup {a:Addr} {xs:List V} (e:H a=some (.tup xs)):bD K H (.ref a) (.type "tuple")
 |dK {a:Addr} {aZ:List (Key×V)} (e:H a=some (.dK aZ)):bD K H (.ref a) (.type "dict")
 |dT {a:Addr} {aZ:List (List Key×V)} (e:H a=some (.dT aZ)):bD K H (.ref a) (.type "dict")
 |ins {a C dx:Addr} {fs:List (Str×V)} (e:H a=some (.ins C dx fs)) (cl:sh K C) (ha:PySem.W.findIn K (.ref C) "__class__"=some (some (.builtin "object.__class__")))
   (hn:PySem.W.specialIn K (.builtin "object.__class__") "__get__"=some (some (.builtin "getset_descriptor.__get__"))) (htk:PySem.W.takesIn K (.builtin "object.__class__")=some true)
   (hm:PySem.W.mroIn K C (.type "object")=some true):bD K H (.ref a) (.ref C)
theorem kM{x:V}{u t:Value}(I:Inv X pins σ H s)(rx:RelV x u)(ty:bD X.K H x t)(e:PySem.W.kitOne X.K t c=some b)(h:∀tk,Q (.bool b) {s with toks:=tk}):
  wpAny (model X.prog X.w) A (call (.builtin "isinstance") [u,c]) Q E s:=by
 cases ty with
 |aC=>cases (show u=Value.none from rx);exact PySem.W.kia_one PySem.W.kitx_none I.aW True.intro e (λz=>nomatch z) h
 |bl y=>cases (show u=Value.bool y from rx);exact PySem.W.kia_one PySem.W.kitx_bool I.aW True.intro e (λz=>nomatch z) h
 |int i=>obtain ⟨t,q⟩:=(show ∃t,u=Value.int i t from rx);cases q;exact PySem.W.kia_one PySem.W.kitx_int I.aW True.intro e (λz=>nomatch z) h
 |str y=>obtain ⟨t,q⟩:=(show ∃t,u=Value.str y t from rx);cases q;exact PySem.W.kia_one PySem.W.kitx_str I.aW True.intro e (λz=>nomatch z) h
 |jz y=>obtain ⟨t,q⟩:=(show ∃t,u=Value.float y t from rx);cases q;exact PySem.W.kia_one PySem.W.kitx_float I.aW True.intro e (λz=>nomatch z) h
 | @lst a xs ea=>
  cases (show u=Value.ref a from rx);obtain ⟨_,_,n,_,h1⟩:=(show aI X.prog X.w H s.heap a (.lst xs) from I.hok a _ ea);exact PySem.W.kia_one PySem.W.kitx_list I.aW ⟨_,h1,rfl⟩ e (λz=>nomatch z) h
 | @dG a ob xs ea=>
  cases (show u=Value.ref a from rx);obtain ⟨_,_,_,n,_,h1⟩:=(show aI X.prog X.w H s.heap a (.dG ob (.lst xs)) from I.hok a _ ea);exact PySem.W.kia_one PySem.W.kitx_list I.aW ⟨_,h1,rfl⟩ e (λz=>nomatch z) h
 | @tup a xs ea=>
  cases (show u=Value.ref a from rx);obtain ⟨_,_,_,p⟩:=(show aI X.prog X.w H s.heap a (.tup xs) from I.hok a _ ea);obtain ⟨o,h1,h2,_⟩:=p;exact PySem.W.kia_one PySem.W.kitx_tuple I.aW ⟨o,h1,h2⟩ e (λz=>nomatch z) h
 | @dK a aZ ea=>
  cases (show u=Value.ref a from rx);obtain ⟨_,_,vs,_,p⟩:=(show aI X.prog X.w H s.heap a (.dK aZ) from I.hok a _ ea);obtain ⟨o,es,ep,h1,h2,_⟩:=p;exact PySem.W.kia_one PySem.W.kitx_dict I.aW ⟨o,h1,h2.1⟩ e (λz=>nomatch z) h
 | @dT a aZ ea=>
  cases (show u=Value.ref a from rx);obtain ⟨_,_,xs,_,o,es,ep,h1,h2,_⟩:=(show aI X.prog X.w H s.heap a (.dT aZ) from I.hok a _ ea);exact PySem.W.kia_one PySem.W.kitx_dict I.aW ⟨o,h1,h2.1⟩ e (λz=>nomatch z) h
 | @ins a C dx fs ea cl ha hn htk hm=>
  cases (show u=Value.ref a from rx);obtain ⟨mA,O,_⟩:=jG I.hok ea;obtain ⟨od,J,_⟩:=O.look;exact PySem.W.kia_one (PySem.W.kitx_own (cl.get _) cl.hd ha hn htk hm) I.aW J e (λz=>nomatch z) h
end
structure a8 (k:Nat) (A:Around):Prop where
 hd:A.handled=none
 dp:A.depth+3*k+5<recursionLimit
 un:A.units+16*k+200<cLine
theorem a8.mono{j k:Nat}{A:Around}(r:a8 k A)(h:j≤k):a8 j A:=⟨r.hd,by have:=r.dp;omega,by have:=r.un;omega⟩
theorem a8.deeper{k:Nat}{A:Around}(r:a8 (k+1) A)(env:Env):a8 k (A.deeper env):=
 ⟨r.hd,by have:=r.dp;show A.depth+1+3*k+5<_;omega,by have:=r.un;show A.units+3+16*k+200<_;omega⟩
theorem jP{A:Around}{C:Addr}{us:List Value}{kw:List (Str×Value)}:(A.under (.builtin "type.__call__" ⟨.ref C::us,kw⟩)).depth=A.depth+1:=by
 first|rfl|simp [Around.under,Code.weight,Code.isCreation,Code.isGuard,Code.isCaller,Code.frames,Code.isFrame,guardIds]
theorem jQ{A:Around}{C:Addr}{us:List Value}{kw:List (Str×Value)}:(A.under (.builtin "type.__call__" ⟨.ref C::us,kw⟩)).units=A.units+1:=by
 first|rfl|simp [Around.under,Code.cUnits,Code.frames,Code.isFrame]
theorem a8.make{k:Nat}{A:Around}(r:a8 (k+1) A)(C:Addr)(us:List Value)(kw:List (Str×Value)):a8 k (A.under (.builtin "type.__call__" ⟨.ref C::us,kw⟩)):=
 ⟨r.hd,by have:=r.dp;rw [jP];omega,by have:=r.un;rw [jQ];omega⟩
theorem a8.depth{k:Nat}{A:Around}(r:a8 k A):A.depth<recursionLimit:=by have:=r.dp;omega
theorem a8.units{k:Nat}{A:Around}(r:a8 k A):A.units+64<cLine:=by have:=r.un;omega
def yo:TA:=λ_ H Q=>Q [] H
def uj(ta:TE)(tr:TA):TA:=λσ H Q=>ta σ H λx H1=>tr σ H1 λxs H2=>Q (x::xs) H2
section
variable {X:Cx} {e:Expr} {es:List Expr} {te:TE} {t:TA} {pos:Pos}
theorem aa:PA X [] yo:=λ_ _ _ _ H Q I h=>Calls.spliced_nil ⟨[],H,I, .nil,h⟩
theorem U(ha:PE X e te)(hr:PA X es t)(hs:starEach (e::es) X.env=(false,eval e X.env)::starEach es X.env:=by rfl):PA X (e::es) (uj te t):=by
 intro pos pins s σ H Q I h;rw [hs];show wpAny _ _ (spliced ((false,eval e X.env)::backTo pos (starEach es X.env))) _ _ s;refine Calls.spliced_cons (thn (ha pins s σ H _ I h) λu s1 ⟨x,H1,I1,r1,q1⟩=>?_);exact thn (hr pos pins s1 σ H1 _ I1 q1) λus s2 ⟨xs,H2,I2,r2,q2⟩=>⟨x::xs,H2,I2, .cons r1 r2,q2⟩
def yr(t:TA):TE:=λσ H Q=>t σ H λxs H1=>xs.length≤sizeLine∧∀p,H1 p=none→Q (.ref p) (upd H1 p (.tup xs))
def yn(t:TA):TE:=λσ H Q=>t σ H λxs H1=>xs.length≤sizeLine∧∀p,H1 p=none→Q (.ref p) (upd H1 p (.lst xs))
theorem aV{x1}(h:PA X es t):PE X (.Tuple es x1 pos) (yr t):=by
 intro pins s σ H Q I hq;refine wpAny_Tuple_spliced (thn (h pos pins s σ H _ I hq) λus s1 ⟨xs,H1,I1,r,z,q⟩=>⟨by rw [←r.length];exact z,?_⟩)
 have hf:H1 s1.heap.objs.size=none:=I1.hok.fresh (bx _);refine ⟨.ref s1.heap.objs.size,upd H1 s1.heap.objs.size (.tup xs),I1.laid (t':=s1.toks) (λb u e=>Heap.get?_push_of_some _ e) (bx _) ?_,rfl,q _ hf⟩;exact ⟨z,us,r,⟨_,Heap.get?_push_size _ rfl,rfl,_,rfl⟩⟩
theorem bg(h:PA X es t):PE X (.List es pos) (yn t):=by
 intro pins s σ H Q I hq;refine wpAny_List_spliced (thn (h pos pins s σ H _ I hq) λus s1 ⟨xs,H1,I1,r,z,q⟩=>⟨by rw [←r.length];exact z,?_⟩)
 have hf:H1 s1.heap.objs.size=none:=I1.hok.fresh (bx _);refine ⟨.ref s1.heap.objs.size,upd H1 s1.heap.objs.size (.lst xs),I1.laid (t':=s1.toks) (λb u e=>Heap.get?_push_of_some _ e) (bx _) ?_,rfl,q _ hf⟩;exact ⟨z,us,0,r,Heap.get?_push_size _ rfl⟩
end
abbrev Sp:=List V→Hp→VK→XK→Prop
abbrev eS:=List Env→Hp→Shared→XK→Value→Shared→Prop
structure Env0 (P:Program) (w:World) (K:PySem.W.Frag) (mg:Str→Option Value) (base:Heap) (A:Around) (outer:List Env) (s:Shared) (H:Hp):Prop where
 frames:A.frames=some outer
 mod:Mod K mg base
 bs:∀b o,base.get? b=some o→s.heap.get? b=some o∧H b=none
 bsz:base.objs.size≤s.heap.objs.size
 funs:s.heap.FunFrames base outer
 frf:∀b∈gD outer,H b=none
 hok:bT P w H s.heap
 bare:AllBare s.gens
def CE(outer:List Env)(P:Program)(w:World)(H:Hp)(s:Shared)(Q:VK)(u:Value)(s':Shared):Prop:=
 ∃v H',s'.os=s.os∧AllBare s'.gens∧Un (gD outer) [] H H' s.heap s'.heap∧bT P w H' s'.heap∧RelV v u∧Q v H'
def CR(CX:eS)(outer:List Env)(P:Program)(w:World)(H:Hp)(s:Shared)(Q:VK)(E:XK)(r:Result)(s':Shared):Prop:=
 match r with
 | .ok (.ret u)=>CE outer P w H s Q u s'
 | .ok _=>False
 | .error e=>CX outer H s E e s'
structure FnOk (P:Program) (w:World) (K:PySem.W.Frag) (mg:Str→Option Value) (base:Heap) (CX:eS) (k:Nat) (f:Addr) (fd:FuncData) (ps:List Str) (sp:Sp):Prop where
 len:∀vs H Q E,sp vs H Q E→vs.length=ps.length
 run:∀(A:Around)(outer:List Env)(s:Shared)(H:Hp)(args:Args)(us:List Value)(vs:List V)(Q:VK)(E:XK),a8 k A→Env0 P w K mg base A outer s H→BindsTo s fd args (ps.zip us)→Vals vs us→sp vs H Q E→
  codeAny (model P w) A (.call (.ref f) args) (CR CX outer P w H s Q E) s
theorem FnOk.mono{P:Program}{w:World}{K:PySem.W.Frag}{mg:Str→Option Value}{base:Heap}{CX:eS}{j k:Nat}{f:Addr}{fd:FuncData}{ps:List Str}{sp:Sp}(F:FnOk P w K mg base CX j f fd ps sp)(h:j≤k):
  FnOk P w K mg base CX k f fd ps sp:=⟨F.len,λA outer s H args us vs Q E hr=>F.run A outer s H args us vs Q E (hr.mono h)⟩
theorem FnOk.imp{P:Program}{w:World}{K:PySem.W.Frag}{mg:Str→Option Value}{base:Heap}{CX:eS}{k:Nat}{f:Addr}{fd:FuncData}{ps:List Str}{sp ye:Sp}(F:FnOk P w K mg base CX k f fd ps sp)
  (h:∀vs H Q E,ye vs H Q E→sp vs H Q E):FnOk P w K mg base CX k f fd ps ye:=
 ⟨λvs H Q E q=>F.len vs H Q E (h _ _ _ _ q),λA outer s H args us vs Q E hr he hb hv hs=>F.run A outer s H args us vs Q E hr he hb hv (h _ _ _ _ hs)⟩
theorem Env0.make{P:Program}{w:World}{K:PySem.W.Frag}{mg:Str→Option Value}{base:Heap}{A:Around}{outer:List Env}{s:Shared}{H:Hp}(e:Env0 P w K mg base A outer s H)(C:Addr)(us:List Value)(kw:List (Str×Value)):
  Env0 P w K mg base (A.under (.builtin "type.__call__" ⟨.ref C::us,kw⟩)) outer s H:=⟨by first|exact e.frames| (simpa [Around.under,Code.envs,Code.isFrame,pushEnvs] using e.frames),e.mod,e.bs,e.bsz,e.funs,e.frf,e.hok,e.bare⟩
section
variable {X:Cx} {pins:List (Addr×Obj)} {σ:St} {H:Hp} {s s':Shared}
theorem Inv.rA(I:Inv X pins σ H s):Env0 X.prog X.w X.K X.mg X.base X.A X.stack s H:=
 ⟨I.ok.frames,I.ok.mod,I.bs,dR I.ok.bsz I.sz,I.stack,I.j6,I.hok,I.bare⟩
theorem Inv.after{Q:VK}{u:Value}(I:Inv X pins σ H s)(h:CE X.stack X.prog X.w H s Q u s'):EP X pins σ Q u s':=by
 obtain ⟨v,H',os,bare,un,hok,r,q⟩:=h;obtain ⟨hh,g,d,t,Dw⟩:=s';obtain rfl:Dw=s.os:=os;exact ⟨v,H',I.call (h':=hh) (g':=g) (d':=d) (t':=t) (ch:= []) un hok bare (λb z=>absurd z (by simp)),r,q⟩
end
def ui(sp:Sp)(cY:List V)(E:XK)(t:TA):TE:=λσ H Q=>t σ H λvs H1=>sp (vs++cY) H1 Q E
def Binds(K:PySem.W.Frag)(fd:FuncData)(ps:List Str)(ds:List Value):Prop:=
 ∀(s:Shared)(us:List Value),K.In s.heap→(us++ds).length=ps.length→BindsTo s fd ⟨us,[]⟩ (ps.zip (us++ds))
theorem Binds.all{K:PySem.W.Frag}{fd:FuncData}{ps:List Str}(h:∀us:List Value,us.length=ps.length→bindArgs fd ⟨us,[]⟩=pure (ps.zip us)):Binds K fd ps []:=λs us _ hl=>by
 rw [List.append_nil] at hl ⊢;exact .of_eq (h us hl)
def Passes(CX:eS)(X:Cx)(E:XK):Prop:=∀(pins:List (Addr×Obj))(σ:St)(H:Hp)(s:Shared)(e:Value)(s':Shared),Inv X pins σ H s→CX X.stack H s E e s'→X.xe e s'
section
variable {X:Cx} {CX:eS} {k:Nat} {f C:Addr} {fd:FuncData} {ps:List Str} {sp:Sp} {cY:List V} {ds:List Value} {E:XK} {x m:Str} {p pos apos:Pos} {e o:Expr} {es:List Expr} {ta:TE} {t:TA}
theorem qH{pins:List (Addr×Obj)}{σ:St}{H:Hp}{s:Shared}{Q:VK}{us:List Value}{vs:List V}(F:FnOk X.prog X.w X.K X.mg X.base CX k f fd ps sp)(hr:a8 k X.A)(hb:Binds X.K fd ps ds)(hd:Vals cY ds)(hx:Passes CX X E)
  (I:Inv X pins σ H s) (r:Vals vs us) (h:sp (vs++cY) H Q E):wpAny (model X.prog X.w) X.A (call (.ref f) us) (EP X pins σ Q) X.xe s:=by
 have r2:Vals (vs++cY) (us++ds):=r.append hd;have hl:(us++ds).length=ps.length:=by rw [←r2.length];exact F.len _ _ _ _ h
 refine wpAny_call (codeAny_mono (F.run X.A X.stack s H ⟨us,[]⟩ (us++ds) (vs++cY) Q E hr I.rA (hb s us I.aW hl) r2 h) λr s' hq=>?_);cases r with
 |error e=>exact hx pins σ H s e s' I hq
 |ok fl=>
  cases fl with
  |ret u=>exact I.after hq
  |next=>exact False.elim hq
  |brk=>exact False.elim hq
  |cont=>exact False.elim hq
theorem a9(F:FnOk X.prog X.w X.K X.mg X.base CX k f fd ps sp)(hr:a8 k X.A)(hg:Gl X x)(hm:X.mg x=some (.ref f))(hk:PySem.W.keepIn X.K (.ref f)=true)(hb:Binds X.K fd ps ds)(hd:Vals cY ds)(hx:Passes CX X E)
  (ha:PA X (e::es) t) (eG:(x==("__debug__":Str))=false:=by decide) (he:starEach (e::es) X.env=(false,eval e X.env)::starEach es X.env:=by rfl) (dy:(backTo pos (starEach es X.env)).any (·.1)=false:=by rfl):
  PE X (.Call (.Name x p) (e::es) [] pos) (ui sp cY E t):=by
 intro pins s σ H Q I h;refine wpAny_Call_Name_kw (dH I hg hm ?_ eG);refine PySem.W.callWith_K (h₀:=X.base) I.ok.mod.kin hk (thn (ha pos pins s σ H _ I h) λus s1 ⟨vs,H1,I1,r,q⟩=>⟨I1.aW,?_⟩) he dy;exact qH F hr hb hd hx I1 r q
end
section
variable {X:Cx} {CX:eS} {k:Nat} {f C:Addr} {fd:FuncData} {ps ks:List Str} {sp:Sp} {E:XK} {x m:Str} {p pos apos Ex:Pos} {e o:Expr} {es:List Expr} {EO:List Keyword} {te ta:TE} {t tk:TA} {nm:Option Str}
variable {g:List Value→List Value→List Value} {gV:List V→List V→List V}
end
structure aE (N P:List Str) (sc:Scope):Prop where
 kind:sc.kind= .function
 co:sc.isCoroutine=false
 gen:sc.isGenerator=false
 nd:N.Nodup
 pre:N.take P.length=P
 par:∀x∈P,sc.names.lookup x=some .local∨sc.names.lookup x=some .cell
 nofree:∀y∈sc.names,y.2≠ .free
theorem gw{kindOf:Str→Option NameKind}{x:Str}:∀{binds:List (Str×Value)}{m:Str→Option Value},(∀v,(x,v)∉binds)→bindL kindOf binds m x=m x
 | [],_,_=>rfl
 | (n,v)::r,m,h=>by
  unfold bindL;rw [gw λw hw=>h w (dB _ hw)]
  split
  ·have:x≠n:=by rintro rfl;exact h v de
   simp [this]
  ·rfl
theorem gu{kindOf:Str→Option NameKind}{x:Str}:∀{binds:List (Str×Value)}{m:Str→Option Value},(∀v,(x,v)∉binds)→bindC kindOf binds m x=m x
 | [],_,_=>rfl
 | (n,v)::r,m,h=>by
  unfold bindC;rw [gu λw hw=>h w (dB _ hw)]
  split
  ·rfl
  ·have:x≠n:=by rintro rfl;exact h v de
   simp [this]
theorem gv{kindOf:Str→Option NameKind}{x:Str}{v:Value}:∀{P:List Str}{vs:List Value}{i:Nat}{m:Str→Option Value},P.Nodup→P[i]? =some x→vs[i]? =some v→kindOf x=some .local→
  bindL kindOf (P.zip vs) m x=some v
 | [],_,_,_,_,h,_,_=>by simp at h
 |_::_,[],_,_,_,_,h,_=>by simp at h
 |p::P,w::vs,0,m,nd,h1,h2,hk=>by
  simp at h1 h2;subst h1;subst h2;show bindL kindOf ((p,w)::P.zip vs) m p=_;unfold bindL;rw [gw λv hv=>(iM.mp nd).1 (List.of_mem_zip hv).1,if_pos hk];simp
 |p::P,w::vs,i+1,m,nd,h1,h2,hk=>by
  show bindL kindOf ((p,w)::P.zip vs) m x=_;unfold bindL;exact gv (i:=i) (iM.mp nd).2 (by simpa using h1) (by simpa using h2) hk
theorem gs{kindOf:Str→Option NameKind}{x:Str}{v:Value}:∀{P:List Str}{vs:List Value}{i:Nat}{m:Str→Option Value},P.Nodup→P[i]? =some x→vs[i]? =some v→kindOf x≠some .local→
  bindC kindOf (P.zip vs) m x=some v
 | [],_,_,_,_,h,_,_=>by simp at h
 |_::_,[],_,_,_,_,h,_=>by simp at h
 |p::P,w::vs,0,m,nd,h1,h2,hk=>by
  simp at h1 h2;subst h1;subst h2;show bindC kindOf ((p,w)::P.zip vs) m p=_;unfold bindC;rw [gu λv hv=>(iM.mp nd).1 (List.of_mem_zip hv).1,if_neg hk];simp
 |p::P,w::vs,i+1,m,nd,h1,h2,hk=>by
  show bindC kindOf ((p,w)::P.zip vs) m x=_;unfold bindC;exact gs (i:=i) (iM.mp nd).2 (by simpa using h1) (by simpa using h2) hk
def start(N:List Str)(vs:List V):St:=vs.map some++List.replicate (N.length-vs.length) none
def eW(CX:eS)(P:Program)(w:World)(K:PySem.W.Frag)(mg:Str→Option Value)(base:Heap)(N:List Str)(qual:Str)(scope:Scope)(f:Addr)(cd:Value)(A:Around)(outer:List Env)(s:Shared)(H:Hp)(E:XK):Cx where
 prog:=P
 w:=w
 K:=K
 mg:=mg
 base:=base
 A:=A.deeper (envOfC qual scope s.heap.objs.size f cd)
 N:=N
 s₀:=s
 H₀:=H
 env:=envOfC qual scope s.heap.objs.size f cd
 outer:=outer
 stack:=envOfC qual scope s.heap.objs.size f cd::outer
 ex:= []
 calm:=true
 fn:=λ_=>true
 pn:= []
 xe:=λe s'=>wpAny (model P w) (A.deeper (envOfC qual scope s.heap.objs.size f cd)) (leaving (envOfC qual scope s.heap.objs.size f cd) e) (λ_ t9=>CX outer H s E e t9) (λe' t9=>CX outer H s E e' t9) s'
theorem iw{sc:Scope}{n:Nat}{x:Str}(h:sc.names.lookup x=some .cell):∃c,(cellsFrom n sc.names []).lookup x=some c:=by
 have q:=PySem.W.cellsFrom_some sc.names n [] (.inl h);exact Option.isSome_iff_exists.mp q
theorem kL{CX:eS}{P:Program}{w:World}{K:PySem.W.Frag}{mg:Str→Option Value}{base:Heap}{N ps:List Str}{qual:Str}{scope:Scope}{f:Addr}{cd:Value}{A:Around}{outer:List Env}{s s1:Shared}{H:Hp}{E:XK}{us:List Value}{vs:List V}
  (S:aE N ps scope) (hd:A.handled=none) (e0:Env0 P w K mg base A outer s H) (hl:vs.length=ps.length) (r:Vals vs us)
  (x:InCallC s s.heap.objs.size (bindL (envOfC qual scope s.heap.objs.size f cd).kindOf (ps.zip us) λ_=>none) (cellsFrom (s.heap.objs.size+1) scope.names []) (bindC (envOfC qual scope s.heap.objs.size f cd).kindOf (ps.zip us) λ_=>none) s1):
  Inv (eW CX P w K mg base N qual scope f cd A outer s H E) [] (start N vs) H s1:=by
 have dy:ps.length≤N.length:=by have:=congrArg List.length S.pre;rw [List.length_take] at this;omega
 obtain ⟨h1,tk,rfl,hk⟩:=x.done;have oI:∀b:Addr,b∉(eW CX P w K mg base N qual scope f cd A outer s H E).ex:=λb z=>absurd (show b∈([]:List Addr) from z) (by simp)
 refine ⟨⟨e0.mod,S.kind,rfl,rfl,bx _,λy z c h1 h2=>?_,λy hy=>?_,λy c _ h=>?_,λ_=>hd,Around.frames_deeper e0.frames, .inr ⟨rfl,rfl⟩,λb z=>absurd z (oI b),e0.bs,e0.bsz,λb _ _=>oI b,λb z=>absurd z (oI b),e0.funs,e0.frf⟩,
  rfl,e0.bare,Un.kept hk,⟨_,x.toInCall.ns,λi y v h1 h2 h3=>?_⟩,λy c h=>⟨_,x.cell y c h⟩,e0.hok.fresh (bx _),λy c h=>?_,λp hp=>absurd (show p∈([]:List (Addr×Obj)) from hp) (by simp),e0.hok.kept hk,?_⟩
 ·exact name_of_addr x.apart (PySem.mem_of_lookup h1) (PySem.mem_of_lookup h2)
 ·have hy:scope.names.lookup y=some .cell∨scope.names.lookup y=some .free:=hy
  rcases hy with hy|hy
  ·exact iw hy
  ·exact absurd rfl (S.nofree _ (PySem.mem_of_lookup hy))
 ·exact Nat.le_of_lt (x.above y c (PySem.mem_of_lookup h))
 ·have hi:i<vs.length:=by
   unfold start at h2
   by_cases hi:i<vs.length
   ·exact hi
   ·rw [List.getElem?_append_right (by simpa using hi)] at h2
    rw [List.getElem?_replicate] at h2
    split at h2<;>cases h2
  have ha:vs[i]? =some v:=by
   unfold start at h2;rw [pM (by simpa using hi),fY] at h2
   cases e:vs[i]? with
   |none=>rw [e] at h2;cases h2
   |some a=>rw [e] at h2;cases h2;rfl
  obtain ⟨u,hu,rv⟩:=r.get ha
  have hp:ps[i]? =some y:=by
   rw [←S.pre,List.getElem?_take_of_lt (by omega)];exact h1
  have xC:ps.Nodup:=by rw [←S.pre];exact S.nd.sublist (List.take_sublist _ _)
  refine ⟨u,rv,?_⟩
  rcases S.par y (List.mem_of_getElem? hp) with k|k
  ·exact .inl ⟨k,gv xC hp hu k⟩
  ·obtain ⟨c,e⟩:=iw (n:=s.heap.objs.size+1) k
   refine .inr ⟨.inl k,c,e,?_⟩;have q:=x.cell y c e;rw [gs xC hp hu (by show scope.names.lookup y≠_;rw [k];decide)] at q
   exact q
 ·exact e0.hok.fresh (Nat.le_of_lt (x.above y c (PySem.mem_of_lookup h)))
 ·unfold start
  show _=N.length;rw [List.length_append,dQ,List.length_replicate];omega
theorem sR{CX:eS}{P:Program}{w:World}{K:PySem.W.Frag}{mg:Str→Option Value}{base:Heap}{k:Nat}{f:Addr}{name qual:Str}{params:Arguments}{body:List Stmt}{scope:Scope}{dV kV doc pm cdv ct oc:Value}{an od:Option Addr}
  {jV:Array (Option Value)} {N ps:List Str} {sp:Sp} (lk:K.lookup f=some ⟨oc,od, .func (PySem.W.fnOf name qual params body scope dV kV doc pm an cdv ct),jV⟩) (fD:PySem.W.codeIn K cdv qual=true) (S:aE N ps scope)
  (len:∀vs H Q E,sp vs H Q E→vs.length=ps.length)
  (eF:∀(A:Around)(outer:List Env)(s:Shared)(H:Hp)(vs:List V)(Q:VK)(E:XK),a8 k (A.deeper (envOfC qual scope s.heap.objs.size f cdv))→sp vs H Q E→
   ∃t,cz (eW CX P w K mg base N qual scope f cdv A outer s H E) body t∧t {nx:=λ_ H'=>Q .aC H',rt:=Q} (start N vs) H):
  FnOk P w K mg base CX (k+1) f (PySem.W.fnOf name qual params body scope dV kV doc pm an cdv ct) ps sp:=by
 refine ⟨len,λA outer s H args us vs Q E hr e0 hb r jF=>?_⟩;have hl:=len _ _ _ _ jF;have KX:K.In s.heap:=e0.mod.kin.keeps λb o e=>(e0.bs b o e).1;have lim:s.heap.NoLimit:=e0.mod.nolimit.keeps λb o e=>(e0.bs b o e).1
 have tw:∀y∈ps.zip us,scope.names.lookup y.1=some .local∨(scope.names.lookup y.1=some .cell∧((cellsFrom (s.heap.objs.size+1) scope.names []).lookup y.1).isSome=true):=λ⟨n,v⟩ hy=>by
  rcases S.par n (List.of_mem_zip hy).1 with q|q
  ·exact .inl q
  ·exact .inr ⟨q,PySem.W.cellsFrom_some _ _ _ (.inl q)⟩
 refine codeAny_call_function hr.depth (KX _ _ lk) rfl S.co S.gen rfl (PySem.W.codeRec_of KX fD) (hb _ _ _ _ ?_);refine wpAny_newFunctionEnv_cells S.kind tw λenv he s1 x=>?_;subst he;refine ⟨lim.keeps x.toInCall.keep,codeAny_func ?_⟩;obtain ⟨t,ht,hq⟩:=eF A outer s H vs Q E (hr.deeper _) jF;have I:Inv (eW CX P w K mg base N qual scope f cdv A outer s H E) [] (start N vs) H s1:=kL S hr.hd e0 hl r x;refine wpAny_mono (ht [] s1 (start N vs) H _ I hq) (λfl s' hs=>?_) λe s' hs=>hs
 have fin:∀{aA:St}{H':Hp}{v:V}{u:Value},Inv (eW CX P w K mg base N qual scope f cdv A outer s H E) [] aA H' s'→RelV v u→Q v H'→CE outer P w H s Q u s':=
  λ {aA H' v u} J rv q=>⟨v,H',J.os,J.bare,J.base,J.hok,rv,q⟩
 cases fl with
 |ret u=>
  obtain ⟨v,aA,H',J,rv,q⟩:=hs;exact fin J rv q
 |next=>
  obtain ⟨aA,H',J,q⟩:=hs;exact fin (v:=V.aC) (u:=Value.none) J rfl q
 |brk=>
  obtain ⟨_,_,_,q⟩:=hs;exact False.elim q
 |cont=>
  obtain ⟨_,_,_,q⟩:=hs;exact False.elim q
section
variable {X:Cx} {x:Str} {p pos:Pos} {e:Expr} {es:List Expr} {t:TA} {id T:String} {r:List V→Hp→VK→Prop}
def yk(r:List V→Hp→VK→Prop)(t:TA):TE:=λσ H Q=>t σ H λvs H1=>r vs H1 Q
theorem ax(hc:CallR X (.builtin id) r)(hg:Gl X x)(hm:X.mg x=none)(hv:bootBuiltins x=some (.builtin id))(ha:PA X (e::es) t)(hn:x≠"__name__":=by decide)(eG:(x==("__debug__":Str))=false:=by decide)
  (he:starEach (e::es) X.env=(false,eval e X.env)::starEach es X.env:=by rfl) (dy:(backTo pos (starEach es X.env)).any (·.1)=false:=by rfl):PE X (.Call (.Name x p) (e::es) [] pos) (yk r t):=by
 intro pins s σ H Q I h;refine wpAny_Call_Name_kw (dW I hg hm hv ?_ hn eG);exact PyProof.Rows.callWith_builtin1 (thn (ha pos pins s σ H _ I h) λus s1 ⟨vs,H1,I1,r1,q1⟩=>hc pins s1 σ H1 vs us Q I1 r1 q1) he dy
theorem gL(hc:CallR X (.type T) r)(hg:Gl X x)(hm:X.mg x=none)(hv:bootBuiltins x=some (.type T))(ha:PA X (e::es) t)(hn:x≠"__name__":=by decide)(eG:(x==("__debug__":Str))=false:=by decide)
  (he:starEach (e::es) X.env=(false,eval e X.env)::starEach es X.env:=by rfl) (dy:(backTo pos (starEach es X.env)).any (·.1)=false:=by rfl):PE X (.Call (.Name x p) (e::es) [] pos) (yk r t):=by
 intro pins s σ H Q I h;refine wpAny_Call_Name_kw (dW I hg hm hv ?_ hn eG);exact PyProof.Rows.callWith_type1 (thn (ha pos pins s σ H _ I h) λus s1 ⟨vs,H1,I1,r1,q1⟩=>hc pins s1 σ H1 vs us Q I1 r1 q1) he dy
end
end L2
namespace HT
open PySem PyProof.Rows
section
open PySem.SeqAt
open PySem.AutoSeq1 (wpAny_loadPart')
open PySem.MeetsSeq PySem.MeetsSeq2 PySem.MeetsSeq3
end
section
variable {prog:Program} {w:World} {A:Around} {E:Value→Shared→Prop} {s:Shared}
def eO(n d:Nat):Option Int→Nat
 |none=>d
 |some v=>if v<0 then (v+(n:Int)).toNat else min v.toNat n
end
end HT
namespace L2
open PySem PySem.Spec PyProof.Rows
abbrev TO:=St→Hp→(Option Int→Hp→Prop)→Prop
def PO(X:Cx)(e:Option Expr)(t:TO):Prop:=
 ∀(pins:List (Addr×Obj))(s:Shared)(σ:St)(H:Hp)(Q:Option Int→Hp→Prop),Inv X pins σ H s→t σ H Q→
  wpAny (model X.prog X.w) X.A (evalPart e X.env) (λu s'=>∃o H',Inv X pins σ H' s'∧IsPart u o∧Q o H') X.xe s
def uq(t:TE):TO:=λσ H Q=>t σ H λx H1=>∃i,x= .int i∧Q (some i) H1
section
variable {X:Cx} {e:Expr} {te:TE} {lo hi:Option Expr} {tl th:TO} {pos p2:Pos}
theorem jX(h:PE X e te):PO X (some e) (uq te):=by
 intro pins s σ H Q I hw;rw [evalPart_some];refine thn (h pins s σ H _ I hw) λu s1 ⟨x,H1,I1,r1,q1⟩=>?_;obtain ⟨i,rfl,q⟩:=q1;obtain ⟨t,rfl⟩:=r1;exact ⟨some i,H1,I1, .int i t,q⟩
def uV(X:Cx)(r:V→Option Int→Option Int→Hp→VK→Prop):Prop:=
 ∀(pins:List (Addr×Obj))(s:Shared)(σ:St)(H:Hp)(x:V)(v vl vu:Value)(lo hi:Option Int)(sl:Addr)(Q:VK),Inv X pins σ H s→RelV x v→s.heap.IsSliceOf sl vl vu .none→IsPart vl lo→IsPart vu hi→r x lo hi H Q→
  ∃T id,typeLookup (.type T) "__getitem__"=pure (some (.builtin id))∧s.TypeIs v T∧wpAny (model X.prog X.w) X.A (getItem v (.ref sl)) (EP X pins σ Q) X.xe s
def D7(r:V→Option Int→Option Int→Hp→VK→Prop)(te:TE)(tl th:TO):TE:=λσ H Q=>te σ H λx H1=>tl σ H1 λl H2=>th σ H2 λu H3=>r x l u H3 Q
theorem mK{r:V→Option Int→Option Int→Hp→VK→Prop}(hr:uV X r)(he:PE X e te)(hl:PO X lo tl)(hu:PO X hi th):PE X (.Subscript e (.Slice lo hi none p2) pos) (D7 r te tl th):=by
 intro pins s σ H Q I h;refine Subscript_ (thn (he pins s σ H _ I h) λv s1 ⟨x,H1,I1,r1,q1⟩=>?_);refine wpAny_Slice (thn (hl pins s1 σ H1 _ I1 q1) λvl s2 ⟨l,H2,I2,pl,q2⟩=>thn (hu pins s2 σ H2 _ I2 q2) λvu s3 ⟨u,H3,I3,pu,q3⟩=>?_);rw [evalPart_none];refine wpAny_pure ?_;have I4:Inv X pins σ H3 {s3 with heap:=s3.heap.push {cls:= .type "slice",data:= .fields #[vl,vu, .none]}}:=I3.kept (t':=s3.toks) λb ob q=>Heap.get?_push_of_some _ q
 obtain ⟨T,id,hT,ht,hg⟩:=hr pins {s3 with heap:=s3.heap.push {cls:= .type "slice",data:= .fields #[vl,vu, .none]}} σ H3 x v vl vu l u s3.heap.objs.size Q I4 r1 (Heap.IsSliceOf.new ..) pl pu q3
 show wpAny (model X.prog X.w) X.A (subscriptTail e (.Slice lo hi none p2) v (.ref s3.heap.objs.size)) (EP X pins σ Q) X.xe {s3 with heap:=s3.heap.push {cls:= .type "slice",data:= .fields #[vl,vu, .none]}}
 exact tail_any (ops:= [.ref s3.heap.objs.size,v]) ht hT hg (by with_unfolding_all rfl)
def eu(xs:List V)(lo hi:Option Int):List V:=(xs.drop (HT.eO xs.length 0 lo)).take (HT.eO xs.length xs.length hi-HT.eO xs.length 0 lo)
theorem eV(xs:List V)(lo hi:Option Int):(eu xs lo hi).length≤xs.length:=by
 unfold eu;rw [List.length_take,List.length_drop];omega
end
def fH(n:Nat)(i:Int):Option Nat:=if 0≤i then (if i<n then some i.toNat else none) else if-(n:Int)≤i then some (i+n).toNat else none
def dh{α:Type}(xs:List α)(i:Int):Option α:=(fH xs.length i).bind λj=>xs[j]?
theorem jK{n:Nat}{i:Int}{j:Nat}(h:fH n i=some j):seqIndex? i n=some j∧j<n∧-(n:Int)≤i∧i<n:=by
 unfold fH at h
 by_cases h0:0≤i
 ·rw [if_pos h0] at h
  by_cases h1:i<n
  ·rw [if_pos h1] at h
   have e:i.toNat=j:=Option.some.inj h;exact ⟨by rw [seqIndex_of h0 h1,e],by omega,by omega,h1⟩
  ·rw [if_neg h1] at h;cases h
 ·rw [if_neg h0] at h
  by_cases h1: -(n:Int)≤i
  ·rw [if_pos h1] at h
   have e:(i+n).toNat=j:=Option.some.inj h;exact ⟨by rw [seqIndex_neg (by omega) h1,e],by omega,h1,by omega⟩
  ·rw [if_neg h1] at h;cases h
theorem js{α:Type}{xs:List α}{i:Int}{v:α}(h:dh xs i=some v):∃j,seqIndex? i xs.length=some j∧xs[j]? =some v∧j<xs.length∧-(xs.length:Int)≤i∧i<xs.length:=by
 unfold dh at h;cases e:fH xs.length i with
 |none=>rw [e] at h;cases h
 |some j=>
  rw [e] at h;obtain ⟨h1,h2,h3,h4⟩:=jK e;exact ⟨j,h1,h,h2,h3,h4⟩
theorem az{α:Type}{xs:List α}{j:Nat}{v:α}(h:xs[j]? =some v):dh xs (j:Int)=some v:=by
 have hj:j<xs.length:=(jk.mp h).1
 have e:fH xs.length (j:Int)=some j:=by
  unfold fH;rw [if_pos (by omega),if_pos (by omega)];simp
 unfold dh;rw [e];exact h
def jn(b:Expr):Prop:=∀o i,subscripted b false o i=operate [o,i] (getItem o i)
def iP(X:Cx)(r:R2):Prop:=
 ∀(value slice:Expr)(pins:List (Addr×Obj))(s:Shared)(σ:St)(H:Hp)(x y:V)(v u:Value)(Q:VK),Inv X pins σ H s→RelV x v→RelV y u→r x y H Q→
  subscripted slice false v u=operate [v,u] (getItem v u)→wpAny (model X.prog X.w) X.A (subscriptTail value slice v u) (EP X pins σ Q) X.xe s
def yQ(X:Cx)(id:String)(r:V→List V→Hp→VK→Prop):Prop:=
 ∀(pins:List (Addr×Obj))(s:Shared)(σ:St)(H:Hp)(x:V)(xs:List V)(v:Value)(us:List Value)(Q:VK),Inv X pins σ H s→RelV x v→Vals xs us→r x xs H Q→
  wpAny (model X.prog X.w) X.A (call (.builtin id) (v::us)) (EP X pins σ Q) X.xe s
section
variable {X:Cx} {a b:Expr} {ta tb:TE} {pos:Pos}
theorem iP.or{r r':R2}(h:iP X r)(h':iP X r'):iP X (λx y H Q=>r x y H Q∨r' x y H Q):=by
 intro value slice pins s σ H x y v u Q I rx ry q hs
 rcases q with q|q
 ·exact h value slice pins s σ H x y v u Q I rx ry q hs
 ·exact h' value slice pins s σ H x y v u Q I rx ry q hs
theorem aG{r:R2}(hr:iP X r)(ha:PE X a ta)(hb:PE X b tb)(hs:jn b):PE X (.Subscript a b pos) (pA r ta tb):=by
 intro pins s σ H Q I h;exact Subscript_ (nB ha hb I h λv u s2 x y H2 I2 rx ry q=>hr a b pins s2 σ H2 x y v u Q I2 rx ry q (hs _ _))
def rY(K:PySem.W.Frag):R2:=λx y H Q=>∃p xs i v,x= .ref p∧y= .int i∧ay K H p xs∧dh xs i=some v∧Q v H
def rZ(K:PySem.W.Frag):R2:=λx y H Q=>∃p xs i v,x= .ref p∧y= .int i∧bF K H p xs∧dh xs i=some v∧Q v H
theorem aB:iP X (rY X.K):=by
 intro value slice pins s σ H x y v u Q I rx ry h hs;obtain ⟨p,xs,i,z,rfl,rfl,hq,he,q⟩:=h;cases rx;obtain ⟨t,rfl⟩:=ry;obtain ⟨its,r,pl,hz⟩:=I.list hq;obtain ⟨j,h1,h2,h3,h4,h5⟩:=js he;obtain ⟨w,ew,oX⟩:=r.get h2;have hl:=r.length;have hn:=ff;have fin:EP X pins σ Q w s:=⟨z,H,I,oX,q⟩
 by_cases h0:0≤i
 ·have hj:i.toNat=j:=by
   rw [seqIndex_of h0 h5] at h1;exact Option.some.inj h1
  exact item_listR pl.isList h0 (by omega) (by rw [hj];simpa using ew) fin hs
 ·have hj:(i+(its.toArray.size:Int)).toNat=j:=by
   rw [seqIndex_neg (by omega) h4] at h1
   rw [cH,←hl];exact Option.some.inj h1
  exact subscriptTail_builtinR (x:=w) pl.isList.typeIs slot_list_getitem.lookup
   (wpAny_getItem_list_neg (Q:=λr s'=>r=w∧EP X pins σ Q r s') pl.isList (by omega) (by rw [cH]<;>omega) (by omega) (by rw [hj];simpa using ew) ⟨rfl,fin⟩) hs
theorem bW:iP X (rZ X.K):=by
 intro value slice pins s σ H x y v u Q I rx ry h hs;obtain ⟨p,xs,i,z,rfl,rfl,hq,he,q⟩:=h;cases rx;obtain ⟨t,rfl⟩:=ry;obtain ⟨its,r,pl,hz⟩:=I.tuple hq;obtain ⟨j,h1,h2,h3,h4,h5⟩:=js he;obtain ⟨w,ew,oX⟩:=r.get h2;have hl:=r.length;have hn:=ff;have fin:EP X pins σ Q w s:=⟨z,H,I,oX,q⟩
 exact subscriptTail_builtinR (x:=w) pl.typeIs slot_tuple_getitem.lookup
  (getItem_tuple (j:=j) (Q:=λr s'=>r=w∧EP X pins σ Q r s') pl (by omega) (by omega) (by rw [cH,←hl];exact h1) (by simpa using ew) ⟨rfl,fin⟩) hs
theorem jR(its:List Value)(n j:Nat)(u:Value):Obj.mapSeq (·.setIfInBounds j u) {cls:= .type "list",data:= .seq its.toArray n}={cls:= .type "list",data:= .seq (its.set j u).toArray n}:=by
 simp [Obj.mapSeq]
theorem Inv.lst{pins:List (Addr×Obj)}{σ:St}{H:Hp}{s:Shared}{p:Addr}{xs:List V}(I:Inv X pins σ H s)(h:H p=some (.lst xs)):
  ∃(its:List Value)(n:Nat),Vals xs its∧s.heap.get? p=some {cls:= .type "list",data:= .seq its.toArray n}∧xs.length≤sizeLine:=by
 obtain ⟨z,its,n,r,e⟩:=I.hok p _ h;exact ⟨its,n,r,e,z⟩
theorem Inv.qv{pins:List (Addr×Obj)}{σ:St}{H:Hp}{s:Shared}{p:Addr}{xs ys:List V}{its its':List Value}{n n':Nat}{f:Obj→Obj}(I:Inv X pins σ H s)(h:H p=some (.lst xs))
  (ho:s.heap.get? p=some {cls:= .type "list",data:= .seq its.toArray n}) (hf:f {cls:= .type "list",data:= .seq its.toArray n}={cls:= .type "list",data:= .seq its'.toArray n'}) (r:Vals ys its') (hz:ys.length≤sizeLine) (t:Nat):
  Inv X pins σ (upd H p (.lst ys)) {s with heap:=s.heap.update p f,toks:=t}:=by
 have e:(s.heap.update p f).get? p=some {cls:= .type "list",data:= .seq its'.toArray n'}:=by
  rw [Heap.get?_update_self f ho (by rw [hf]<;>rfl),hf]
 refine I.write (x:=p) (e:=p) (by rw [h];trivial) (.inl rfl) (λb u hb q=>(Heap.get?_update_other _ _ (Ne.symm hb)).trans q) ⟨_,e⟩ ?_
 exact ⟨hz,its',n',r,e⟩
def t8:V→V→V→Hp→(Hp→Prop)→Prop:=λo i v H Q=>∃p xs k j,o= .ref p∧i= .int k∧H p=some (.lst xs)∧fH xs.length k=some j∧Q (upd H p (.lst (xs.set j v)))
theorem set_list:rh X t8:=by
 intro pins s σ H o i v ov iv u Q I ro ri rv h;obtain ⟨p,xs,k,j,rfl,rfl,hp,hj,q⟩:=h;cases ro;obtain ⟨t,rfl⟩:=ri;obtain ⟨its,n,r,ho,hz⟩:=I.lst hp;obtain ⟨h1,h2,h3,h4⟩:=jK hj;have hl:=r.length;have hn:=ff
 have I':Inv X pins σ (upd H p (.lst (xs.set j v))) {s with heap:=s.heap.update p (Obj.mapSeq (·.setIfInBounds j u))}:=
  I.qv hp ho (jR its n j u) (r.set rv j) (by rw [kh];exact hz) s.toks
 by_cases h0:0≤k
 ·have hk:k.toNat=j:=by
   rw [seqIndex_of h0 h4] at h1;exact Option.some.inj h1
  exact PySem.W.ki_setAt ho h0 (by omega) (by rw [cH,←hl];exact h4) (by rw [hk];exact ⟨_,I',q⟩)
 ·have hk:(k+(its.toArray.size:Int)).toNat=j:=by
   rw [seqIndex_neg (by omega) h3] at h1
   rw [cH,←hl];exact Option.some.inj h1
  exact PySem.W.ki_setBack ho (by omega) (by rw [cH,←hl];exact h3) (by omega) (by rw [hk];exact ⟨_,I',q⟩)
theorem il(lo hi:Option Int)(n:Nat):(sliceBounds lo hi none n).1=((HT.eO n 0 lo:Nat):Int)∧(sliceBounds lo hi none n).2.1=((HT.eO n n hi:Nat):Int)∧(sliceBounds lo hi none n).2.2=1:=by
 refine ⟨?_,?_,rfl⟩
 ·cases lo with
  |none=>simp [sliceBounds,HT.eO]
  |some i=>
   simp only [sliceBounds,HT.eO,Option.getD_none,show (1:Int)>0 by decide,if_true]
   by_cases h:i<0
   ·simp only [h,if_true]<;>omega
   ·simp only [h,if_false]<;>omega
 ·cases hi with
  |none=>simp [sliceBounds,HT.eO]
  |some i=>
   simp only [sliceBounds,HT.eO,Option.getD_none,show (1:Int)>0 by decide,if_true]
   by_cases h:i<0
   ·simp only [h,if_true]<;>omega
   ·simp only [h,if_false]<;>omega
theorem gS(its:List Value)(lo hi:Option Int):slicePick its.toArray lo hi none=((its.drop (HT.eO its.length 0 lo)).take (HT.eO its.length its.length hi-HT.eO its.length 0 lo)).toArray:=by
 obtain ⟨h1,h2,h3⟩:=il lo hi its.toArray.size;unfold slicePick;rw [h1,h2,h3];simp only [sliceRange_one,pick_run,cH]<;>rfl
def xY(K:PySem.W.Frag):V→Option Int→Option Int→Hp→VK→Prop:=λx lo hi H Q=>∃a xs,x= .ref a∧ay K H a xs∧∀p,H p=none→Q (.ref p) (upd H p (.lst (eu xs lo hi)))
theorem pb:uV X (xY X.K):=by
 intro pins s σ H x v vl vu lo hi sl Q I rx hs pl pu h;obtain ⟨a,xs,rfl,hx,q⟩:=h;cases rx;obtain ⟨its,r,ht,hz⟩:=I.list hx;have hlen:=r.length;refine ⟨"list",_,slot_list_getitem.lookup,ht.isList.typeIs,?_⟩;refine wpAny_getItem_list_slice ht.isList hs pl pu .none (by simp) ?_ (by rw [cH]<;>omega)
 rw [gS,←hlen];refine ⟨.ref s.heap.objs.size,_,I.laid (t':=s.toks) (o:= .lst (eu xs lo hi)) (λb ob q=>Heap.get?_push_of_some _ q) (bx _) ?_,rfl,q _ (I.hok.fresh (bx _))⟩;exact ⟨dR (eV xs lo hi) hz,_,0,(r.drop (HT.eO xs.length 0 lo)).take (HT.eO xs.length xs.length hi-HT.eO xs.length 0 lo),Heap.get?_push_size _ rfl⟩
theorem cX:CallR X (.builtin "len") (λxs H Q=>∃p ys,xs= [.ref p]∧(ay X.K H p ys∨bF X.K H p ys)∧Q (.int ys.length) H):=by
 intro pins s σ H xs us Q I r h;obtain ⟨p,ys,rfl,hq,q⟩:=h;obtain ⟨u,rfl,rx⟩:=vals1 r;cases rx;have hn:=ff
 rcases hq with hq|hq
 ·obtain ⟨its,r',pl,hz⟩:=I.list hq
  have hlen:=r'.length;exact Calls.call_len_list pl.isList (by simp only [cH]<;>omega) ⟨.int ys.length,H,I.tok _,⟨s.toks+1,by rw [cH,hlen]⟩,q⟩
 ·obtain ⟨its,r',pl,hz⟩:=I.tuple hq
  have hlen:=r'.length;exact len_tuple pl (by simp only [cH]<;>omega) ⟨.int ys.length,H,I.tok _,⟨s.toks+1,by rw [cH,hlen]⟩,q⟩
theorem hZ:CallR X (.type "list") (λxs H Q=>∃p ys,xs= [.ref p]∧(ay X.K H p ys∨bF X.K H p ys)∧∀l,H l=none→Q (.ref l) (upd H l (.lst ys))):=by
 intro pins s σ H xs us Q I r h;obtain ⟨p,ys,rfl,hq,q⟩:=h;obtain ⟨u,rfl,rx⟩:=vals1 r;cases rx
 have fin:∀(its:List Value),Vals ys its→ys.length≤sizeLine→∀(h':Heap)(c':Nat),(∀b o',s.heap.get? b=some o'→h'.get? b=some o')→
   h'.get? s.heap.objs.size=some {cls:= .type "list",dict:=none,data:= .seq its.toArray c',slots:= #[]}→EP X pins σ Q (.ref s.heap.objs.size) {s with heap:=h'}:=λits r' hz h' c' kp e=>
  ⟨.ref s.heap.objs.size,_,I.laid (t':=s.toks) kp (bx _) (show aI X.prog X.w _ h' _ (.lst ys) from ⟨hz,its,c',r',e⟩),rfl,q _ (I.hok.fresh (bx _))⟩
 rcases hq with hq|hq
 ·obtain ⟨its,r',pl,hz⟩:=I.list hq
  have hlen:=r'.length;obtain ⟨o,ho,hc,n,hd⟩:=pl.isList;exact call_list_seq p (.inl rfl) ho hc hd (λh' c' kp e=>fin its r' hz h' c' kp e) (by simp only [cH]<;>omega)
 ·obtain ⟨its,r',pl,hz⟩:=I.tuple hq
  have hlen:=r'.length;obtain ⟨o,ho,hc,n,hd⟩:=pl;exact call_list_seq p (.inr rfl) ho hc hd (λh' c' kp e=>fin its r' hz h' c' kp e) (by simp only [cH]<;>omega)
theorem gy:CallR X (.type "tuple") (λxs H Q=>∃p ys,xs= [.ref p]∧((ay X.K H p ys∧∀l,H l=none→Q (.ref l) (upd H l (.tup ys)))∨(bF X.K H p ys∧Q (.ref p) H))):=by
 intro pins s σ H xs us Q I r h;obtain ⟨p,ys,rfl,h⟩:=h;obtain ⟨u,rfl,rx⟩:=vals1 r;cases rx
 rcases h with ⟨hq,q⟩ | ⟨hq,q⟩
 ·obtain ⟨its,r',pl,hz⟩:=I.list hq
  have hlen:=r'.length;refine call_tuple_list pl.isList (λh' kp=>?_) (by simp only [cH]<;>omega)
  have I1:Inv X pins σ H {s with heap:=h'}:=I.kept (t':=s.toks) kp
  have I2:Inv X pins σ (upd H h'.objs.size (.tup ys)) {s with heap:=h'.push {cls:= .type "tuple",data:= .seq its.toArray}}:=
   I1.laid (t':=s.toks) (λb o e=>Heap.get?_push_of_some _ e) (bx _) (show aI X.prog X.w _ _ _ (.tup ys) from ⟨hz,its,r',IsTup.new _ _⟩)
  exact ⟨.ref h'.objs.size,_,I2,rfl,q _ (I1.hok.fresh (bx _))⟩
 ·obtain ⟨its,r',pl,hz⟩:=I.tuple hq
  exact call_tuple_same pl ⟨.ref p,H,I,rfl,q⟩
def yu(K:PySem.W.Frag)(T:String)(x:V)(H:Hp):Prop:=match x with
 | .str _=>T="str"
 | .int _=>T="int"
 | .ref p=>(T="list"∧∃xs,ay K H p xs)∨(T="tuple"∧∃o,K.lookup p=some o∧o.cls= .type "tuple"∧o.dict=none)∨
   (T="dict"∧((∃aZ,H p=some (.dK aZ))∨∃aZ,H p=some (.dT aZ)))∨(T="set"∧∃S n,H p=some (.set S n))
 |_=>False
theorem qX{pins:List (Addr×Obj)}{σ:St}{H:Hp}{s:Shared}{T:String}{x:V}{v:Value}(I:Inv X pins σ H s)(r:RelV x v)(ty:yu X.K T x H):
  s.TypeIs v T∧∀a,v= .ref a→∃ob,s.heap.get? a=some ob∧ob.dict=none:=by
 cases x with
 |str z=>
  obtain ⟨t,rfl⟩:=r;cases (show T="str" from ty);exact ⟨typeIs_str s z t,λ_ e=>nomatch e⟩
 |int i=>
  obtain ⟨t,rfl⟩:=r;cases (show T="int" from ty);exact ⟨typeIs_int s i t,λ_ e=>nomatch e⟩
 |ref p=>
  cases r
  rcases ty with ⟨rfl,xs,hq⟩ | ⟨rfl,o,hk,hc,hd⟩ | ⟨rfl,hk⟩ | ⟨rfl,S,n,hk⟩
  ·obtain ⟨its,_,pl,_⟩:=I.list hq
   refine ⟨pl.isList.typeIs,λa e=>?_⟩;cases e;obtain ⟨o,n,e,c,hd,_⟩:=pl;exact ⟨o,e,hd⟩
  ·refine ⟨⟨o,I.aW p o hk,hc⟩,λa e=>?_⟩
   cases e;exact ⟨o,I.aW _ o hk,hd⟩
  ·have z:∃o,s.heap.get? p=some o∧o.ExactDict:=by
    rcases hk with ⟨aZ,hk⟩ | ⟨aZ,hk⟩
    ·obtain ⟨_,_,_,_,o,_,_,e,ex,_⟩:=I.hok p _ hk
     exact ⟨o,e,ex⟩
    ·obtain ⟨_,_,_,_,o,_,_,e,ex,_⟩:=I.hok p _ hk
     exact ⟨o,e,ex⟩
   obtain ⟨o,e,ex⟩:=z;refine ⟨⟨o,e,ex.1⟩,λa e2=>?_⟩;cases e2;exact ⟨o,e,ex.2.1⟩
  ·obtain ⟨o,_,_,_,e,ex,_⟩:=I.hok p _ hk
   refine ⟨⟨o,e,ex.1⟩,λa e2=>?_⟩;cases e2;exact ⟨o,e,ex.2.1⟩
 |_=>exact False.elim ty
def D4(K:PySem.W.Frag)(T:String)(r:V→List V→Hp→VK→Prop)(to:TE)(t:TA):TE:=λσ H Q=>to σ H λx H1=>yu K T x H1∧t σ H1 λxs H2=>r x xs H2 Q
variable {o e:Expr} {es:List Expr} {to:TE} {t:TA} {name:Str} {apos eU:Pos} {T id:String} {r:V→List V→Hp→VK→Prop}
theorem oS(pa:PlainAttrs T)(slot:Slot T name id)(AH:typeOf (.builtin id)=pure (.type "method_descriptor"))(hm:yQ X id r)(ho:PE X o to)(ha:PA X (e::es) t)
  (sW:attributeBase o name X.env (eval o X.env)=eval o X.env:=by rfl)
  (wt:((backTo eU (starEach (e::es) X.env)).all (λx=>!x.1)&&(backToKw eU (keywordEach [] X.env)).all (λx=>x.1.isSome)
   &&decide ((e::es).length+([]:List Keyword).length+(if ([]:List Keyword).isEmpty then 0 else 1)<30))=true:=by rfl)
  (n9:(apos.endLine==eU.line)=true:=by rfl) (hs:starEach (e::es) X.env=(false,eval e X.env)::starEach es X.env:=by rfl) (qi:(backTo eU (starEach es X.env)).any (·.1)=false:=by rfl):
  PE X (.Call (.Attribute o name apos) (e::es) [] eU) (D4 X.K T r to t):=by
 intro pins s σ H Q I h;refine wpAny_Call_method_late sW wt n9 rfl (thn (ho pins s σ H _ I h) λv s1 ⟨x,H1,I1,r1,ty,q1⟩=>?_);obtain ⟨h1,h2⟩:=qX I1 r1 ty;refine ⟨T,id,pa,slot,AH,h1,h2,?_⟩;have hA:=ha eU pins s1 σ H1 _ I1 q1;rw [hs] at hA ⊢;refine Calls.callWith_builtin (by show (false|| (backTo eU (starEach es X.env)).any (·.1))=false;rw [qi]<;>rfl) (Calls.evalArgs_plain ?_)
 exact thn hA λus s2 ⟨vs,H2,I2,r2,q2⟩=>hm pins s2 σ H2 x vs v us Q I2 r1 r2 q2
end
def yP(X:Cx)(id:String)(r:V→List V→Hp→VK→Prop):Prop:=
 ∀(pins:List (Addr×Obj))(s:Shared)(σ:St)(H:Hp)(x:V)(xs:List V)(v:Value)(us:List Value)(Q:VK),Inv X pins σ H s→RelV x v→Vals xs us→r x xs H Q→
  wpAny (model X.prog X.w) X.A (call (.builtin id) (v::us)) (EP X pins σ Q) X.xe s
theorem Vals.one:∀{x:V}{us:List Value},Vals [x] us→∃u,us= [u]∧RelV x u
 |_,_, .cons r .nil=>⟨_,rfl,r⟩
theorem Vals.two:∀{x y:V}{us:List Value},Vals [x,y] us→∃u v,us= [u,v]∧RelV x u∧RelV y v
 |_,_,_, .cons r (.cons q .nil)=>⟨_,_,rfl,r,q⟩
section
variable {X:Cx} {pins:List (Addr×Obj)} {σ:St} {H:Hp} {s:Shared} {l b:Addr} {xs ys zs:List V}
theorem Inv.xr{its its':List Value}{n:Nat}{f:Array Value→Array Value}{t':Nat}(I:Inv X pins σ H s)(hH:H l=some (.lst xs))
  (e:s.heap.get? l=some {cls:= .type "list",data:= .seq its.toArray n}) (hf:f its.toArray=its'.toArray) (hv:Vals ys its') (hz:ys.length≤sizeLine):
  Inv X pins σ (upd H l (.lst ys)) {s with heap:=s.heap.update l (Obj.mapSeq f),toks:=t'}:=by
 have q:=PySem.IsL.update e f;rw [hf] at q;refine I.write (x:=l) (e:=l) (by rw [hH];exact trivial) (.inl rfl) (λb' u hb hu=>(Heap.get?_update_other s.heap (Obj.mapSeq f) (Ne.symm hb)).trans hu) ⟨_,q⟩ ?_
 exact ⟨hz,its',_,hv,q⟩
theorem Inv.rN{its:List Value}{t':Nat}(I:Inv X pins σ H s)(hv:Vals ys its)(hz:ys.length≤sizeLine):
  Inv X pins σ (upd H s.heap.objs.size (.lst ys)) {s with heap:=s.heap.push {cls:= .type "list",data:= .seq its.toArray},toks:=t'}:=
 I.laid (λ_ _ q=>Heap.get?_push_of_some _ q) (bx _) ⟨hz,its,0,hv,Heap.get?_push_size _ rfl⟩
theorem Inv.fresh(I:Inv X pins σ H s):H s.heap.objs.size=none:=I.hok.fresh (bx _)
theorem Inv.lB(I:Inv X pins σ H s)(hH:H l=some (.lst xs)):xs.length≤sizeLine∧∃(its:List Value)(n:Nat),Vals xs its∧xs.length=its.length∧s.heap.get? l=some {cls:= .type "list",data:= .seq its.toArray n}:=by
 obtain ⟨z,its,n,r,e⟩:=I.hok l _ hH;exact ⟨z,its,n,r,r.length,e⟩
end
section
variable {X:Cx}
def oW:V→List V→Hp→VK→Prop:=λx vs H Q=>∃l xs y,x= .ref l∧vs= [y]∧H l=some (.lst xs)∧xs.length<sizeLine∧Q .aC (upd H l (.lst (xs++ [y])))
theorem eJ:yP X "list.append" oW:=by
 intro pins s σ H x vs v us Q I rx rv h;obtain ⟨l,xs,y,rfl,rfl,hH,hz,q⟩:=h;cases rx;obtain ⟨u,rfl,ru⟩:=rv.one;obtain ⟨z,its,n,r,hl,e⟩:=I.lB hH;refine call_meets F.slot_list_append ⟨_,e,rfl⟩ F.entry_list_append (F.args_list_append_2 _ _) (PySem.list_append l its.toArray n u (by rw [cH];omega)) ⟨e,?_⟩
 refine ⟨.aC,_,I.xr (its':=its++ [u]) hH e (by simp) (r.append (.cons ru .nil)) ?_,rfl,q⟩
 rw [List.length_append,List.length_singleton];omega
def xV:R2:=λx y H Q=>∃l b xs zs,x= .ref l∧y= .ref b∧H l=some (.lst xs)∧H b=some (.lst zs)∧xs.length+zs.length≤sizeLine∧∀p,H p=none→Q (.ref p) (upd H p (.lst (xs++zs)))
theorem dk:OpR X (binaryOp .Add) xV:=by
 intro pins s σ H x y v u Q I rx ry h;obtain ⟨l,b,xs,zs,rfl,rfl,hH,hB,hz,q⟩:=h;cases rx;cases ry;obtain ⟨z,its,n,r,hl,e⟩:=I.lB hH;obtain ⟨z2,rL,n2,r2,EL,e2⟩:=I.lB hB;refine PySem.P.add_list e e2 ?_ (by rw [cH,cH];omega)
 have ea:its.toArray++rL.toArray=(its++rL).toArray:=by simp
 rw [ea];exact ⟨.ref _,_,I.rN (t':=s.toks) (r.append r2) (by rw [List.length_append];omega),rfl,q _ I.fresh⟩
end
section
variable {prog:Program} {w:World} {A:Around} {E:Value→Shared→Prop} {s:Shared}
end
section
variable {X:Cx}
end
end L2
namespace uL
open PySem PySem.W PySem.Calls PyProof.Rows
theorem fG{P:Params}{h:Heap}:∀(ns:List Int)(vs:List Value),WellAll P h vs (ns.map WData.int)→IntsAre vs ns:=by
 intro ns
 induction ns with
 |nil=>
  intro vs w;rw [List.map_nil] at w;cases w;exact .nil
 |cons n ns ih=>
  intro vs w;rw [List.map_cons] at w;cases w with
  |cons a b=>
   cases a;exact .cons _ _ (ih _ b)
theorem lb{l:OpenLaw}{n:Nat}(hn:l.most=some n){P:Params}{h:Heap}{args:List WData}{vals:List Value}
  (lz:l.row.toRowW.claim.pre args=true) (tN:WellAll P h vals args):
  ∃a vs ns,vals= [Value.ref a]∧args= [WData.list (ns.map WData.int)]∧h.get? a=some {cls:= .type "list",data:= .seq vs.toArray}∧IntsAre vs ns∧ns.length≤n:=by
 have Ay:WShape.hasAll [] args [.list .int]=true:=(pre_splitW lz).1;have hc:l.pre.holds [] {args:=args}=true:=(pre_splitW lz).2;obtain ⟨d,r,rfl,h1,h2⟩:=hasAllW_cons Ay;obtain rfl:=hasAllW_nil h2;obtain ⟨xs,rfl,h3⟩:=hasW_list h1;obtain ⟨ns,rfl⟩:=items_int h3
 have hlen:ns.length≤n:=by
  unfold OpenLaw.pre at hc
  have h4:(WTm.not (.lt (.lit (.int (n:Int))) (.len (.arg 0)))).holds [] {args:= [.list (ns.map .int)]}=true:=by
   have h4:=(holds_andW hc).1;rw [hn] at h4;exact h4
  have h5:=condW_of h4 (w_not (w_lt w_lit (w_len_list (w_arg rfl))));rw [dQ] at h5;refine iK λq=>?_;have q':(n:Int)<((ns.length:Nat):Int):=by omega
  first
   | (rw [decide_eq_true q'] at h5;exact absurd h5 (by decide))
   | (simp at h5;omega)
 cases tN with
 |cons w1 w2=>
  cases w2;cases w1 with
  |list ho we=>exact ⟨_,_,ns,rfl,rfl,ho,fG ns _ we,hlen⟩
theorem kW(l:OpenLaw)(args:List WData):l.row.toRowW.claim.post args (.bool true) args=true:=
 postW_of (r:=l.row.toRowW) (X:=(true==true))
  (show WShape.has [] (.bool true) .bool=true by first|rfl|decide|simp [WShape.has,WShape.arms,WShape.armsAll])
  (show (WTm.eq .res (.lit (.bool true))).value [] {args:=args,res:=some (.bool true),after:=args}=some (.bool (true==true)) from w_eq_bool (w_res rfl) w_lit) rfl
theorem iQ{l:OpenLaw}{n:Nat}{q:Program}{loose:List Str}{XP:(Str→Option Value)→Heap→Prop}{YP:World→Heap→Prop}{d:DefRec}
  (hn:l.most=some n) (nY:d.params.defaults= [])
  (call:∀(w:World)(s₀ s₁:Shared)(mg mb:Str→Option Value)(fa:Addr)(o:Obj)(pm cd doc:Value)(a:Addr)(vs:List Value)(ns:List Int),
   Ground q loose [] XP w s₀ mg mb s₁.heap→YP w s₁.heap→
   s₁.heap.get? fa=some o→o.data= .func (docDef d.name d.params d.body d.scope pm cd doc)→s₁.heap.CodeRec cd d.name→mg d.name=some (.ref fa)→
   s₁.heap.get? a=some {cls:= .type "list",data:= .seq vs.toArray}→IntsAre vs ns→ns.length≤n→s₁.gens= #[]→
   codeAny (model l.prog w) callerA (.call (.ref fa) ⟨[.ref a],[]⟩) (λr s'=>r= .ok (.ret (.bool true))∧OldK s₁.heap s'.heap∧s'.os=s₁.os∧AllBare s'.gens) s₁):
  WalkO q loose XP YP l.row.toRowW d [] (λf vs=>PySem.call f vs):=by
 intro w s₀ s₁ mg mb G Y fa o pm cd doc dV kV ho hd fD hD og hg args vals as lz Eu EN tN EM;obtain rfl:dV= .none:=Dflts.none hD nY;obtain rfl:kV= .none:=Dflts.noKw hD;obtain ⟨a,vs,ns,rfl,rfl,oh,hints,hlen⟩:=lb hn lz tN;refine enter_call (codeAny_mono (call w s₀ s₁ mg mb fa o pm cd doc a vs ns G Y ho (fd_plain hd) fD og oh hints hlen hg) λr s' hq=>?_);obtain ⟨rfl,h2,h3,h4⟩:=hq;exact ⟨.inl ⟨.bool true, .bool true,[],rfl,λ_=>rfl, .bool true,kW l _,λ_=>⟨List.Pairwise.nil,λ_ hm=>(nomatch hm)⟩⟩,h2,h3,h4⟩
section
variable {prog:Program} {w:World} {A:Around} {E:Value→Shared→Prop} {s:Shared} {K:Frag}
end
end uL
namespace L2
open PySem PySem.Spec PyProof.Rows
theorem gX:∀{vs:List Value}{ns:List Int},IntsAre vs ns→Vals (ns.map V.int) vs
 |_,_, .nil=> .nil
 |_,_, .cons n t h=> .cons ⟨t,rfl⟩ (gX h)
def ni(H:Hp):Prop:=∀b,H b=none∨∃o xs,H b=some (.dG o (.lst xs))
theorem my{P:Program}{w:World}{K:PySem.W.Frag}{mg mb:Str→Option Value}{CX:eS}{k:Nat}{fa a:Addr}{fd:FuncData}{x:Str}{sp:Sp}{s₁:Shared}{vs:List Value}{ns:List Int}
  (KX:K.In s₁.heap) (mn:s₁.heap.Ns mainGlobals mg) (hb:s₁.heap.Ns builtinsNs mb) (qd:∀x:Str,x≠"__name__"→mb x=bootBuiltins x) (wz:s₁.heap.NoLimit) (hg:s₁.gens= #[])
  (ha:s₁.heap.get? a=some {cls:= .type "list",data:= .seq vs.toArray}) (hi:IntsAre vs ns) (hl:ns.length≤sizeLine) (hr:a8 k callerA)
  (F:∀base:Heap,K.In base→base.Ns mainGlobals mg→FnOk P w K mg base CX k fa fd [x] sp) (sX:∀(s:Shared)(u:Value),BindsTo s fd ⟨[u],[]⟩ [(x,u)])
  (jF:∀H:Hp,ni H→ay K H a (ns.map V.int)→sp [.ref a] H (λv _=>v= .bl true) λ_ _ _=>False)
  (sU:∀H e s',CX [] H s₁ (λ_ _ _=>False) e s'→False):
  codeAny (model P w) callerA (.call (.ref fa) ⟨[.ref a],[]⟩) (λr s'=>r= .ok (.ret (.bool true))∧OldK s₁.heap s'.heap∧s'.os=s₁.os∧AllBare s'.gens) s₁:=by
 have rv:=gX hi;have xq:=hi.length
 have core:∀H:Hp,ni H→ay K H a (ns.map V.int)→bT P w H s₁.heap→(∀b,H b≠none→b=a)→(H a≠none→K.lookup a=none)→
   codeAny (model P w) callerA (.call (.ref fa) ⟨[.ref a],[]⟩) (λr s'=>r= .ok (.ret (.bool true))∧OldK s₁.heap s'.heap∧s'.os=s₁.os∧AllBare s'.gens) s₁:=by
  intro H hO hS hok hA hK;have jt:∀{b:Addr}{o:Obj},s₁.heap.get? b=some o→H b=none→(eZ s₁.heap H).get? b=some o:=λe n=>mm e n
  have oI:∀{b:Addr}{o:Obj}{es:Array DictEntry}{ep:Nat},s₁.heap.get? b=some o→o.data= .dict es ep→H b=none:=λ {b o es ep} e d=>by
   cases q:H b with
   |none=>rfl
   |some u=>
    have e':b=a:=hA b (by rw [q];simp)
    subst e';rw [ha] at e;cases e;have d':Data.seq vs.toArray _=Data.dict es ep:=d;cases d'
  have qA:∀{b:Addr}{m:Str→Option Value},s₁.heap.Ns b m→(eZ s₁.heap H).Ns b m:=λ {b m} ⟨o,es,ep,e,d,r⟩=>⟨o,es,ep,jt e (oI e d),d,r⟩
  have wa:K.In (eZ s₁.heap H):=λb o e=>jt (KX b o e) (by
   cases q:H b with
   |none=>rfl
   |some u=>
    have e':b=a:=hA b (by rw [q];simp)
    subst e';rw [hK (by rw [q];simp)] at e;cases e)
  have hM:Mod K mg (eZ s₁.heap H):=⟨wa,qA mn,⟨mb,qA hb,qd⟩,let ⟨mc,h1,h2⟩:=wz;⟨mc,qA h1,h2⟩⟩;have e0:Env0 P w K mg (eZ s₁.heap H) callerA [] s₁ H:=⟨rfl,hM,λb o e=>oO e,Nat.le_of_eq (kH _ _),trivial,λb hb=>absurd (show b∈([]:List Addr) from hb) (by simp),hok, .of_eq hg⟩
  refine codeAny_mono ((F _ wa (qA mn)).run callerA [] s₁ H ⟨[.ref a],[]⟩ [.ref a] [.ref a] _ _ hr e0 (sX s₁ (.ref a)) (.cons rfl .nil) (jF H hO hS)) λr s' h=>?_;cases r with
  |error e=>exact (sU H e s' h).elim
  |ok fl=>
   cases fl with
   |next=>exact False.elim h
   |brk=>exact False.elim h
   |cont=>exact False.elim h
   |ret u=>
    obtain ⟨v,H',os,bare,un,wC,r',q⟩:=h;have q':v= .bl true:=q;subst q';obtain rfl:u=Value.bool true:=r';refine ⟨rfl,OldK.of_keep λb o e=>?_,os,bare⟩;cases q:H b with
    |none=>exact un.keep b o e q (by intro z;exact absurd (show b∈([]:List Addr) from z) (by simp)) (by simp)
    |some u=>
     rcases hO b with z| ⟨ob,xs,z⟩
     ·rw [q] at z;cases z
     ·have z2:=un.frzs b ob _ z
      obtain ⟨e1,_⟩:=hok b _ z;obtain ⟨e2,_⟩:=wC b _ z2;rw [e] at e1;cases e1;exact e2
 cases hk:K.lookup a with
 |some o=>
  have e:=KX a o hk;rw [ha] at e;cases e;refine core (λ_=>none) (λ_=> .inl rfl) (.inr ⟨_,vs.toArray,_,hk,rfl,rfl,rfl,by rw [cH,xq];exact hl,by simpa using rv⟩) (λb u z=>by have z':(none:Option HO)=some u:=z;cases z') (λb z=>absurd rfl z) λz=>absurd rfl z
 |none=>
  refine core (λb=>if b=a then some (.dG {cls:= .type "list",data:= .seq vs.toArray} (.lst (ns.map V.int))) else none) (λb=>?_) (.inl (.inr ⟨{cls:= .type "list",data:= .seq vs.toArray},if_pos rfl⟩)) (λb u z=>?_) (λb z=>?_) λ_=>hk
  ·by_cases hb:b=a
   ·exact .inr ⟨_,_,if_pos hb⟩
   ·exact .inl (if_neg hb)
  ·by_cases hb:b=a
   ·have z':=(if_pos hb).symm.trans z
    cases z';subst hb;exact ⟨ha,by rw [dQ];exact hl,vs,_,rv,ha⟩
   ·have z':=(if_neg hb).symm.trans z
    cases z'
  ·by_cases hb:b=a
   ·exact hb
   ·exact absurd (if_neg hb) z
theorem pI{l:PySem.W.OpenLaw}{n k:Nat}{q:Program}{loose:List Str}{XP:(Str→Option Value)→Heap→Prop}{YP:World→Heap→Prop}{d:DefRec}{K:Params→PySem.W.Frag}{CX:World→eS}{sp:World→Sp}{x:Str}
  (hn:l.most=some n) (qg:n≤sizeLine) (nY:d.params.defaults= []) (hr:a8 k callerA)
  (hY:∀(w:World)(h:Heap),YP w h→(K w.params).In h)
  (F:∀(w:World)(mg:Str→Option Value)(fa:Addr)(h:Heap),(K w.params).In h→h.Ns mainGlobals mg→mg d.name=some (.ref fa)→
   ∃fd:FuncData,(∀(s:Shared)(u:Value),BindsTo s fd ⟨[u],[]⟩ [(x,u)])∧
    ∀base:Heap,(K w.params).In base→base.Ns mainGlobals mg→FnOk l.prog w (K w.params) mg base (CX w) k fa fd [x] (sp w))
  (jF:∀(w:World)(H:Hp)(a:Addr)(ns:List Int),ns.length≤n→ni H→ay (K w.params) H a (ns.map V.int)→sp w [.ref a] H (λv _=>v= .bl true) λ_ _ _=>False)
  (sU:∀(w:World)(H:Hp)(s:Shared)(e:Value)(s':Shared),CX w [] H s (λ_ _ _=>False) e s'→False):
  PySem.W.WalkO q loose XP YP l.row.toRowW d [] (λf vs=>PySem.call f vs):=by
 refine uL.iQ hn nY λw s₀ s₁ mg mb fa o pm cd doc a vs ns G Y ho hd fD og oh hints hlen hg=>?_;have KX:=hY w _ Y;obtain ⟨fd,hb,hF⟩:=F w mg fa _ KX G.T.g og;exact my KX G.T.g G.T.b G.T.builtins G.T.nolimit hg oh hints (dR hlen qg) hr hF hb (λH hO hS=>jF w H a ns hlen hO hS) λH e s'=>sU w H s₁ e s'
def inClass(s:Stmt)(j:Nat):Stmt:=match s with
 | .ClassDef _ _ _ body _ _ _ _ _ _ _=>body.getD j (.Pass ⟨0,0,0,0⟩)
 |_=> .Pass ⟨0,0,0,0⟩
def aF(s:Stmt):Arguments:=match s with
 | .FunctionDef _ a _ _ _ _ _ _ _ _=>a
 |_=>{posonlyargs:= [],args:= [],vararg:=none,kwonlyargs:= [],kw_defaults:= [],kwarg:=none,defaults:= []}
def aw(s:Stmt):List Stmt:=match s with
 | .FunctionDef _ _ b _ _ _ _ _ _ _=>b
 |_=> []
def ag(s:Stmt):Scope:=match s with
 | .FunctionDef _ _ _ _ _ _ sc _ _ _=>sc
 |_=>{kind:= .function,names:= [],isGenerator:=false,isCoroutine:=false}
abbrev bE:eS:=λ_ _ _ _ _ _=>False
abbrev E0:XK:=λ_ _ _=>False
theorem aY{X:Cx}:Passes bE X E0:=λ_ _ _ _ _ _ _ h=>h.elim
structure df (K:PySem.W.Frag) (x qual:Str) (st:Stmt) (f:Addr) (fd:FuncData):Prop where
 ex:∃(oc:Value)(od:Option Addr)(kV doc pm:Value)(an:Option Addr)(cdv ct:Value)(jV:Array (Option Value)),
  fd=PySem.W.fnOf x qual (aF st) (aw st) (ag st) .none kV doc pm an cdv ct∧K.lookup f=some ⟨oc,od, .func fd,jV⟩∧PySem.W.codeIn K cdv qual=true
 kp:PySem.W.keepIn K (.ref f)=true
section
variable {P:Program} {w:World} {K:PySem.W.Frag} {mg:Str→Option Value} {base:Heap}
theorem df.ok{x qual:Str}{st:Stmt}{f:Addr}{fd:FuncData}{N ps:List Str}{k:Nat}{sp:Sp}(F:df K x qual st f fd)(S:aE N ps (ag st))(len:∀vs H Q E,sp vs H Q E→vs.length=ps.length)
  (eF:∀(cdv:Value)(A:Around)(outer:List Env)(s:Shared)(H:Hp)(vs:List V)(Q:VK)(E:XK),a8 k (A.deeper (envOfC qual (ag st) s.heap.objs.size f cdv))→sp vs H Q E→
   ∃t,cz (eW bE P w K mg base N qual (ag st) f cdv A outer s H E).gd (aw st) t∧t {nx:=λ_ H'=>Q .aC H',rt:=Q} (start N vs) H):FnOk P w K mg base bE (k+1) f fd ps sp:=by
 obtain ⟨oc,od,kV,doc,pm,an,cdv,ct,jV,rfl,lk,fD⟩:=F.ex;refine sR lk fD S len λA outer s H vs Q E hr jF=>?_;obtain ⟨t,h,q⟩:=eF cdv A outer s H vs Q E hr jF;exact ⟨t,h.gd,q⟩
theorem df.binds{x qual:Str}{st:Stmt}{f:Addr}{fd:FuncData}{ps:List Str}(F:df K x qual st f fd)
  (h:∀(kV doc pm:Value)(an:Option Addr)(cdv ct:Value)(us:List Value),us.length=ps.length→bindArgs (PySem.W.fnOf x qual (aF st) (aw st) (ag st) .none kV doc pm an cdv ct) ⟨us,[]⟩=pure (ps.zip us)):Binds K fd ps []:=by
 obtain ⟨oc,od,kV,doc,pm,an,cdv,ct,jV,rfl,lk,fD⟩:=F.ex;exact .all (h kV doc pm an cdv ct)
theorem aS{x qual:Str}{st:Stmt}{f:Addr}{oc:Value}{od an:Option Addr}{jV:Array (Option Value)}{kV doc pm cdv ct:Value}(l:K.lookup f=some ⟨oc,od, .func (PySem.W.fnOf x qual (aF st) (aw st) (ag st) .none kV doc pm an cdv ct),jV⟩)
  (c:PySem.W.codeIn K cdv qual=true) (k:PySem.W.keepIn K (.ref f)=true):df K x qual st f (PySem.W.fnOf x qual (aF st) (aw st) (ag st) .none kV doc pm an cdv ct):=⟨⟨oc,od,kV,doc,pm,an,cdv,ct,jV,rfl,l,c⟩,k⟩
end
theorem bJ{n:Nat}(h:n≤1000):n<sizeLine:=Nat.lt_of_le_of_lt h (by decide)
section
variable {X:Cx}
theorem pv(i:Nat){x:Str}{pos:Pos}(hN:X.N[i]? =some x:=by rfl)(hv:nq X.env.scope x:=by first|exact Or.inl rfl|exact Or.inr (Or.inl rfl) |exact Or.inr (Or.inr rfl))(hd:(x==("__debug__":Str))=false:=by decide)
  (fD:(x==("__classdict__":Str))=false:=by decide):PE X (.Name x pos) (se i):=lK hN hv hd fD
end
theorem cL{A B:Prop}(h:B):if false=true then A else B:=by
 rw [if_neg g9];exact h
theorem eB{A B:Prop}(h:A):if true=true then A else B:=by
 rw [if_pos rfl];exact h
theorem lA{c A B:Prop} [Decidable c] (h1:c→A) (h2:¬c→B):if c then A else B:=by
 by_cases h:c
 ·rw [if_pos h]
  exact h1 h
 ·rw [if_neg h]
  exact h2 h
def ak(H H':Hp):Prop:=∀b o,H b=some o→H' b=some o
theorem ak.refl(H:Hp):ak H H:=λ_ _ h=>h
theorem ak.trans{H H1 H2:Hp}(a:ak H H1)(b:ak H1 H2):ak H H2:=λc o h=>b c o (a c o h)
theorem ak.free{H H':Hp}(e:ak H H'){l:Addr}(h:H' l=Option.none):H l=Option.none:=by
 cases q:H l with
 |none=>rfl
 |some o=>
  rw [e l o q] at h;cases h
theorem ak.seq{K:PySem.W.Frag}{H H':Hp}{a:Addr}{xs:List V}(e:ak H H')(h:ay K H a xs):ay K H' a xs:=by
 rcases h with (h| ⟨o,h⟩) |h
 ·exact .inl (.inl (e _ _ h))
 ·exact .inl (.inr ⟨o,e _ _ h⟩)
 ·exact .inr h
def cI(env:Env):List (Str×NameKind)→List (Str×Addr)→List (Str×Addr)
 | [],cs=>cs
 | (n,k)::r,cs=>if k==NameKind.free then cI env r ((n,(env.cells.lookup n).getD 0)::cs) else cI env r cs
theorem c8{scope:Scope}{env:Env}(h:∀x∈scope.names,x.2= .free→∃c,env.cells.lookup x.1=some c):closureFor scope env=pure (cI env scope.names []):=by
 simp only [closureFor]
 have go:∀(names:List (Str×NameKind))(cs:List (Str×Addr)),(∀x∈names,x.2= .free→∃c,env.cells.lookup x.1=some c)→
   (forIn names cs λx __s=>if (x.snd==NameKind.free)=true then (do let a ←cellOf env x.fst;pure (ForInStep.yield ((x.fst,a)::__s))) else pure (ForInStep.yield __s))=(pure (cI env names cs):Sem _):=by
  intro names
  induction names with
  |nil=>intro cs _;rfl
  |cons x r ih=>
   intro cs h;obtain ⟨n,k⟩:=x;rw [List.forIn_cons,cI];have hr:=λcs=>ih cs λy hy=>h y (dB _ hy);cases hk:k==NameKind.free with
   |false=>
    simp only [hk,Bool.false_eq_true,if_false];exact hr cs
   |true=>
    have n0:k= .free:=by simpa using hk
    obtain ⟨c,hc⟩:=h (n,k) de n0;simp only at hc;simp only [if_true,cellOf,hc];exact hr _
 rw [go _ _ h];rfl
theorem bz{env:Env}:∀(names:List (Str×NameKind))(cs:List (Str×Addr)),(∀x∈names,x.2= .free→∃c,env.cells.lookup x.1=some c)→(∀x c,cs.lookup x=some c→env.cells.lookup x=some c)→
  ∀x c,(cI env names cs).lookup x=some c→env.cells.lookup x=some c
 | [],cs,_,hc=>hc
 | (n,k)::r,cs,h,hc=>by
  rw [cI]
  split
  ·rename_i hk
   refine bz r _ (λy hy=>h y (dB _ hy)) λx c e=>?_;obtain ⟨c',nW⟩:=h (n,k) de (by simpa using hk)
   rw [fB] at e
   split at e
   ·rename_i hx
    have AI:x=n:=by simpa using hx
    subst AI;simp only at nW;rw [nW] at e ⊢;exact e
   ·exact hc x c e
  ·exact bz r cs (λy hy=>h y (dB _ hy)) hc
theorem dS{env:Env}:∀(names:List (Str×NameKind))(cs:List (Str×Addr))(x:Str),((x,NameKind.free)∈names∨∃c,cs.lookup x=some c)→∃c,(cI env names cs).lookup x=some c
 | [],cs,x,h=>by
  rcases h with h|h
  ·cases h
  ·exact h
 | (n,k)::r,cs,x,h=>by
  rw [cI]
  split
  ·rename_i hk
   refine dS r _ x ?_
   by_cases e:x=n
   ·subst e;exact .inr ⟨(env.cells.lookup x).getD 0,by simp [fB]⟩
   ·have ne:(x==n)=false:=by simpa using e
    rcases h with h| ⟨c,h⟩
    ·rcases cF.mp h with z|z
     ·cases z;exact absurd rfl e
     ·exact .inl z
    ·exact .inr ⟨c,by rw [fB,ne];exact h⟩
  ·rename_i hk
   refine dS r cs x ?_
   rcases h with h|h
   ·rcases cF.mp h with z|z
    ·cases z;exact absurd rfl hk
    ·exact .inl z
   ·exact .inr h
def eC(src:List (Option Nat))(σ:St):St:=src.map λo=>o.bind λi=>(σ[i]?).bind id
def bH(scope:Scope)(XN:List Str):List (Option Nat)→List Str→Prop
 | [],[]=>True
 |none::r,_::n=>bH scope XN r n
 |some i::r,x::n=>XN[i]? =some x∧scope.names.lookup x=some .free∧bH scope XN r n
 |_,_=>False
theorem bH.len{scope:Scope}{XN:List Str}:∀{src:List (Option Nat)}{NC:List Str},bH scope XN src NC→src.length=NC.length
 | [],[],_=>rfl
 |none::r,_::n,h=>by have:=bH.len (src:=r) (NC:=n) h;simp [this]
 |some i::r,_::n,h=>by have:=bH.len (src:=r) (NC:=n) h.2.2;simp [this]
 | [],_::_,h=>h.elim
 |none::_,[],h=>h.elim
 |some _::_,[],h=>h.elim
theorem bH.at{scope:Scope}{XN:List Str}:∀{src:List (Option Nat)}{NC:List Str}{j i:Nat}{x:Str},bH scope XN src NC→src[j]? =some (some i)→NC[j]? =some x→XN[i]? =some x∧scope.names.lookup x=some .free
 | [],[],_,_,_,_,h,_=>by simp at h
 |none::r,_::n,0,_,_,_,h,_=>by simp at h
 |none::r,_::n,j+1,i,x,h,h1,h2=>bH.at (src:=r) (NC:=n) (j:=j) h (by simpa using h1) (by simpa using h2)
 |some k::r,y::n,0,i,x,h,h1,h2=>by
  have e1:k=i:=by simpa using h1
  have e2:y=x:=by simpa using h2
  subst e1 e2;exact ⟨h.1,h.2.1⟩
 |some k::r,_::n,j+1,i,x,h,h1,h2=>bH.at (src:=r) (NC:=n) (j:=j) h.2.2 (by simpa using h1) (by simpa using h2)
 | [],_::_,_,_,_,h,_,_=>h.elim
 |none::_,[],_,_,_,h,_,_=>h.elim
 |some _::_,[],_,_,_,h,_,_=>h.elim
structure aR (X:Cx) (scope:Scope):Prop where
 kind:scope.kind= .function
 names:∀x∈scope.names,x.2= .local→scope.names.lookup x.1=some .local
 nocell:∀x∈scope.names,x.2≠ .cell
 free:∀x∈scope.names,x.2= .free→X.env.kindOf x.1=some .cell∨X.env.kindOf x.1=some .free
theorem cj{env:Env}:∀(names:List (Str×NameKind))(x:Str),
  (names.map λ(n,k)=>if (k==NameKind.free&&env.scope.kind== .function&&env.kindOf n==some .cell) then (n,NameKind.cell) else (n,k)).lookup x=
   (names.lookup x).map λk=>if (k==NameKind.free&&env.scope.kind== .function&&env.kindOf x==some .cell) then NameKind.cell else k
 | [],_=>rfl
 | (n,k)::r,x=>by
  have ih:=cj (env:=env) r x;show List.lookup x ((if (k==NameKind.free&&env.scope.kind== .function&&env.kindOf n==some .cell)=true then (n,NameKind.cell) else (n,k))::_)=_;cases hx:x==n with
  |true=>
   have e:x=n:=by simpa using hx
   subst e
   by_cases hc:(k==NameKind.free&&env.scope.kind== .function&&env.kindOf x==some .cell)=true
   ·rw [if_pos hc,fB,fB]
    simp only [hx];show some NameKind.cell=some (if _ then _ else _);rw [if_pos hc]
   ·rw [if_neg hc,fB,fB]
    simp only [hx];show some k=some (if _ then _ else _);rw [if_neg hc]
  |false=>
   by_cases hc:(k==NameKind.free&&env.scope.kind== .function&&env.kindOf n==some .cell)=true
   ·rw [if_pos hc];simp only [fB,hx];exact ih
   ·rw [if_neg hc];simp only [fB,hx];exact ih
theorem mem_lookup{names:List (Str×NameKind)}{x:Str}{k:NameKind}(h:names.lookup x=some k):(x,k)∈names:=PySem.mem_of_lookup h
def dE(X:Cx)(scope:Scope)(NC:List Str)(ex:List Addr)(s:Shared)(H:Hp):Cx:=
 {X with N:=NC,s₀:=s,H₀:=H,env:=compEnvC scope (cI X.env scope.names []) s.heap.objs.size X.env,outer:=X.stack,stack:=X.stack,ex:=ex,fn:=λ_=>false,pn:= [],xe:=λ_ _=>False}
section
variable {X:Cx} {pins:List (Addr×Obj)} {σ:St} {H:Hp} {s:Shared} {scope:Scope} {NC:List Str} {ex:List Addr} {src:List (Option Nat)}
theorem aR.cells(c:aR X scope)(ok:X.Ok):∀x∈scope.names,x.2= .free→∃c,X.env.cells.lookup x.1=some c:=λx hx e=>ok.has x.1 (c.free x hx e)
theorem aR.tS(c:aR X scope){C:Addr}{x:Str}{k:NameKind}(h:(compEnvC scope (cI X.env scope.names []) C X.env).kindOf x=some k)(hk:k= .cell∨k= .free):scope.names.lookup x=some .free:=by
 have h':(relabel scope X.env).names.lookup x=some k:=h;unfold relabel at h';rw [cj] at h';cases e:scope.names.lookup x with
 |none=>rw [e] at h';cases h'
 |some k'=>
  have nc:=c.nocell _ (mem_lookup e);rw [e] at h';have h2:(if (k'==NameKind.free&&X.env.scope.kind== .function&&X.env.kindOf x==some .cell) then NameKind.cell else k')=k:=Option.some.inj h'
  by_cases hf:k'= .free
  ·rw [hf]
  ·have hb:(k'==NameKind.free)=false:=by simpa using hf
   rw [hb,Bool.false_and,Bool.false_and,if_neg g9] at h2
   rcases hk with z|z
   ·rw [h2] at nc;exact absurd z nc
   ·rw [h2] at hf;exact absurd z hf
theorem nE(I:Inv X pins σ H s)(c:aR X scope)(hf:∀b∈ex,cn X pins H b)(ek:∀b∈ex,b<s.heap.objs.size):(dE X scope NC ex s H).Ok where
 mod:=I.ok.mod
 kind:=c.kind
 glob:=I.ok.glob
 blt:=I.ok.blt
 above:=bx _
 inj:=λx y d h1 h2=>I.ok.inj x y d (bz _ _ (c.cells I.ok) (λ_ _ z=>by cases z) x d h1) (bz _ _ (c.cells I.ok) (λ_ _ z=>by cases z) y d h2)
 has:=λx hx=>dS _ _ x (.inl (mem_lookup (by rcases hx with h|h<;>exact c.tS h (by simp))))
 cab:=λ_ _ z=>by cases z
 hd:=I.ok.hd
 frames:=I.ok.frames
 stk:= .inl rfl
 exf:=λb hb=>⟨cG (ek b hb),λx d e=>(hf b hb).2.2.2.2.1 x d (bz _ _ (c.cells I.ok) (λ_ _ z=>by cases z) x d e)⟩
 bs:=I.bs
 bsz:=dR I.ok.bsz I.sz
 noex:=λb o e hb=>by
  rcases (hf b hb).2.2.2.1 with z|z
  ·exact I.ok.noex b o e z
  ·exact absurd (el (Heap.lt_size e) (dR I.ok.bsz z)) (fZ _)
 exfs:=λb hb z=>(cF.mp (I.jf b z)).elim (hf b hb).2.1 (hf b hb).2.2.1
 funs:=I.stack
 frf:=I.j6
theorem mh{h1:Heap}{tk:Nat}{ob:Obj}(I:Inv X pins σ H s)(c:aR X scope)(ez:bH scope X.N src NC)(hf:∀b∈ex,cn X pins H b)(ek:∀b∈ex,b<s.heap.objs.size)
  (mn:h1.Ns s.heap.objs.size (λ_=>none)) (mq:Heap.SameBut s.heap.objs.size (s.heap.push ob) h1):
  Inv (dE X scope NC ex s H) [] (eC src σ) H {s with heap:=h1,toks:=tk}:=by
 have old:∀b o,s.heap.get? b=some o→h1.get? b=some o:=λb o e=>mq.extBut b o (cG (Heap.lt_size e)) (Heap.get?_push_of_some _ e);have cl:∀x d,(cI X.env scope.names []).lookup x=some d→X.env.cells.lookup x=some d:=λx d=>bz _ _ (c.cells I.ok) (λ_ _ z=>by cases z) x d
 have cellK:∀d v,s.heap.IsCell d v→h1.IsCell d v:=λd v ⟨o,ho,hd⟩=>⟨o,old d o ho,hd⟩;refine ⟨nE I c hf ek,rfl,I.bare,Un.kept old,⟨_,mn,λj x v e1 e2 e3=>?_⟩,λx d e=>?_,I.hok.fresh (bx _),λx d e=>I.freeC x d (cl x d e),λp hp=>absurd (show p∈([]:List (Addr×Obj)) from hp) (by simp),I.hok.kept old,?_⟩
 ·have gB:(eC src σ)[j]? =some (some v):=e2
  unfold eC at gB;rw [fY] at gB;cases ej:src[j]? with
  |none=>rw [ej] at gB;cases gB
  |some o=>
   rw [ej] at gB;cases o with
   |none=>cases gB
   |some i=>
    have e4:(σ[i]?).bind id=some v:=Option.some.inj gB
    have e5:σ[i]? =some (some v):=by
     cases q:σ[i]? with
     |none=>rw [q] at e4;cases e4
     |some z=>rw [q] at e4;exact congrArg some e4
    obtain ⟨hN,tu⟩:=ez.at ej e1;have hk:=c.free _ (mem_lookup tu) rfl;obtain ⟨m,hn,hl⟩:=I.loc;obtain ⟨u,r,l⟩:=hl i x v hN e5 (hk.elim (λz=> .inr (.inl z)) (λz=> .inr (.inr z)));refine ⟨u,r, .inr ⟨?_,?_⟩⟩
    ·show (relabel scope X.env).names.lookup x=_∨(relabel scope X.env).names.lookup x=_
     unfold relabel;rw [cj,tu]
     by_cases z:(NameKind.free==NameKind.free&&X.env.scope.kind== .function&&X.env.kindOf x==some .cell)=true
     ·left;simp only [Option.map_some,z,if_true]
     ·right;simp only [Option.map_some,z];rfl
    ·obtain ⟨d,hd⟩:=dS (env:=X.env) scope.names [] x (.inl (mem_lookup tu))
     refine ⟨d,hd,?_⟩
     rcases l with ⟨l,_⟩ | ⟨_,d',e,z⟩
     ·exfalso;rcases hk with z|z<;>(rw [l] at z;cases z)
     ·rw [cl x d hd] at e;cases e;exact cellK d _ z
 ·obtain ⟨v,z⟩:=I.cell x d (cl x d e)
  exact ⟨v,cellK d v z⟩
 ·show (eC src σ).length=NC.length
  unfold eC;rw [dQ];exact ez.len
theorem comp_back{H':Hp}{aA:St}{s':Shared}{h2:Heap}{ja:List (Addr×Obj)}(I:Inv X pins σ H s)(hf:∀b∈ex,cn X pins H b)(J:Inv (dE X scope NC ex s H) ja aA H' s')
  (mq:Heap.SameBut s.heap.objs.size s'.heap h2):Inv X pins σ H' {s' with heap:=h2}:=by
 have up:∀b o,b≠s.heap.objs.size→s'.heap.get? b=some o→h2.get? b=some o:=λb o hb e=>mq.extBut b o hb e;have ne:∀b o,s.heap.get? b=some o→b≠s.heap.objs.size:=λb o e=>cG (Heap.lt_size e);have u:=J.base;refine I.sx (ch:=ex) (show s'.os=s.os from J.os) ⟨λb o e n hb hx=>up b o (ne b o e) (u.keep b o e n hb hx),λb o e n hb hx=>?_,u.free,λb o e hx=>?_,u.tups,u.frzs,u.tbls⟩ ?_ J.bare λb hb=>?_
 ·obtain ⟨sl,q⟩:=u.slot b o e n hb hx
  exact ⟨sl,up b _ (ne b o e) q⟩
 ·obtain ⟨o',q⟩:=u.there b o e hx
  exact ⟨o',up b o' (ne b o e) q⟩
 ·intro b o e
  have nC:∀b o,H' b=some o→b≠s.heap.objs.size:=λb o e z=>by
   have:=J.free
   rw [z] at e;have e':H' s.heap.objs.size=none:=this;rw [e'] at e;cases e
  refine (J.hok b o e).fA (λd v hd q=>up d v ?_ q) (λ_ q=>q) λ_ _ q=>q
  rcases hd with z|z
  ·rw [z];exact nC b o e
  ·exact nC d _ z
 ·obtain ⟨_,f1,_,f3,f4,f5⟩:=hf b hb
  exact ⟨f3,f1,f4,f5⟩
end
def ko(X:Cx)(ifs:List Expr)(t:TT):Prop:=
 ∀(pins:List (Addr×Obj))(s:Shared)(σ:St)(H:Hp)(Q:Bool→Hp→Prop),Inv X pins σ H s→t σ H Q→
  wpAny (model X.prog X.w) X.A (forIn ifs true λc r=>if r=true then do let ok ←isTrue c X.env (eval c X.env);pure (ForInStep.yield ok) else pure (ForInStep.yield r)) (TP X pins σ Q) X.xe s
def pF:TT:=λ_ H Q=>Q true H
theorem dM{X:Cx}:ko X [] pF:=λ_ _ _ H _ I h=>wpAny_tests_nil ⟨H,I,h⟩
theorem oU{X:Cx}{c:Expr}{t:TT}(h:PT X c t):ko X [c] t:=λpins s σ H Q I q=>wpAny_tests_one (h pins s σ H Q I q)
def uS(J:It)(g:TG)(tt:TT)(te:TE)(D:Addr)(Q:VK)(σ:St)(H:Hp):Prop:=
 ∃W:Nat→Nat→St→Hp→Prop,(∃m,W 0 m σ H)∧∀i m dt H2,W i m dt H2→
  (J.stop i H2∧Q (.ref D) H2)∨
  (J.go i H2∧∃N:St→Hp→Prop,(∀aA H',N aA H'→∃m',m'<m∧W (i+1) m' aA H')∧∀x H3,J.yld i H2 x H3→g x dt H3 λcy H4=>tt cy H4 λb H5=>
   if b=true then te cy H5 λv H6=>∃ys,H6 D=some (.lst ys)∧ys.length<sizeLine∧N cy (upd H6 D (.lst (ys++ [v]))) else N cy H5)
def um(wi:TI)(g:TG)(tt:TT)(te:TE)(src:List (Option Nat)):TE:=λσ H Q=>wi σ H λJ H1=>∀D,H1 D=none→uS J g tt te D Q (eC src σ) (upd H1 D (.lst []))
section
variable {X:Cx} {elt iter tg:Expr} {ifs:List Expr} {scope:Scope} {pos:Pos} {wi:TI} {g:TG} {tt:TT} {te:TE} {src:List (Option Nat)} {NC:List Str}
theorem fQ{pins:List (Addr×Obj)}{σ:St}{s2:Shared}{H2:Hp}{it:Addr}{fp:List Addr}{tn:Nat→Heap→Prop}{J:It}{RR:Value→Addr→Result→Shared→Prop}{E:Value→Shared→Prop}{Q:VK}
  (hc:X.calm=true) (c:aR X scope) (ez:bH scope X.N src NC) (I2:Inv X pins σ H2 s2) (T:Turn X.prog X.w X.K tg J fp it tn) (ip:tn 0 s2.heap) (f2:∀b∈fp,cn X pins H2 b)
  (hg:∀s H,PG (dE X scope NC fp s H) tg g) (ht:∀s H,ko (dE X scope NC fp s H) ifs tt) (he:∀s H,PE (dE X scope NC fp s H) elt te)
  (hW:∀D,H2 D=none→∃W:Nat→Nat→St→Hp→Prop,(∃m,W 0 m (eC src σ) (upd H2 D (.lst [])))∧∀i m dt H2,W i m dt H2→
   (J.stop i H2∧Q (.ref D) H2)∨
   (J.go i H2∧∃N:St→Hp→Prop,(∀aA H',N aA H'→∃m',m'<m∧W (i+1) m' aA H')∧∀x H3,J.yld i H2 x H3→g x dt H3 λcy H4=>tt cy H4 λb H5=>
    if b=true then te cy H5 λv H6=>∃ys,H6 D=some (.lst ys)∧ys.length<sizeLine∧N cy (upd H6 D (.lst (ys++ [v]))) else N cy H5))
  (z3:∀D s3 H3 aA H' s',Inv X pins σ H3 s3→(∀b∈fp,cn X pins H3 b)→Inv (dE X scope NC fp s3 H3) [] aA H' s'→Q (.ref D) H'→RR (.ref D) s3.heap.objs.size (.ok .next) s'):
  wpAny (model X.prog X.w) X.A (newList []) (λacc pq=>wpAny (model X.prog X.w) X.A (newFunctionEnv scope X.env.globals (cI X.env scope.names []) [] X.env.qual none .none (some X.env)) (λjw pz=>
   codeAny (model X.prog X.w) X.A (.compStart (.ListComp elt [⟨tg,iter,ifs,0⟩] scope pos) 0 (.ref it) acc {jw with scope:=relabel scope X.env}) (RR acc jw.locals) pz) E pq) E s2:=by
 obtain ⟨W,⟨m0,w0⟩,turn⟩:=hW s2.heap.objs.size I2.fresh;have I3:Inv X pins σ (upd H2 s2.heap.objs.size (.lst [])) {s2 with heap:=s2.heap.push {cls:= .type "list",data:= .seq ([]:List Value).toArray}}:=I2.rN (its:= []) (t':=s2.toks) .nil (Nat.zero_le _)
 have Cf:∀b∈fp,b<s2.heap.objs.size:=λb hb=>by
  obtain ⟨o,e,_⟩:=T.obj _ _ ip b hb;exact Heap.lt_size e
 have f3:∀b∈fp,cn X pins (upd H2 s2.heap.objs.size (.lst [])) b:=λb hb=>⟨by rw [af (cG (Cf b hb))];exact (f2 b hb).1,(f2 b hb).2⟩
 refine wpAny_newObj_type ?_
 suffices key:∀s3:Shared,Inv X pins σ (upd H2 s2.heap.objs.size (.lst [])) s3→(∀b o,s2.heap.get? b=some o→s3.heap.get? b=some o)→
   wpAny (model X.prog X.w) X.A (newFunctionEnv scope X.env.globals (cI X.env scope.names []) [] X.env.qual none .none (some X.env)) (λjw pz=>
    codeAny (model X.prog X.w) X.A (.compStart (.ListComp elt [⟨tg,iter,ifs,0⟩] scope pos) 0 (.ref it) (.ref s2.heap.objs.size) {jw with scope:=relabel scope X.env}) (RR (.ref s2.heap.objs.size) jw.locals) pz) E s3 from
  key _ I3 λb o e=>Heap.get?_push_of_some _ e
 intro s3 I3 D8;have pj:tn 0 s3.heap:=T.keep _ _ _ ip λb _ o e=>D8 b o e
 have tW:∀b∈fp,b<s3.heap.objs.size:=λb hb=>by
  obtain ⟨o,e,_⟩:=T.obj _ _ pj b hb;exact Heap.lt_size e
 generalize sV:upd H2 s2.heap.objs.size (.lst [])=H3 at I3 f3 w0;refine wpAny_newFunctionEnv c.nocell (by intro y hy;simp at hy) (λh1 mn mq=>?_) c.kind
 have I4:=mh (src:=src) (NC:=NC) (ex:=fp) (tk:=s3.toks+([]:List (Str×Value)).length) I3 c ez f3 tW mn mq;have yh:tn 0 h1:=T.keep _ _ _ pj λb hb o e=>mq.extBut b o (cG (tW b hb)) (Heap.get?_push_of_some _ e);generalize hX:dE X scope NC fp s3 H3=XC at I4
 have stat:∀{H':Hp},(∀b∈fp,H' b=none)→∀b∈fp,cn XC [] H' b:=λ {H'} hn b hb=>by
  subst hX;refine ⟨hn b hb,cG (tW b hb),λz=>?_, .inl hb,λx d e=>?_,λp hp=>absurd (show p∈([]:List (Addr×Obj)) from hp) (by simp)⟩
  ·exact (I4.ok.exfs b hb) z
  ·exact (I4.ok.exf b hb).2 x d e
 have loop:codeAny (model X.prog X.w) X.A (.compLoop (.ListComp elt [⟨tg,iter,ifs,0⟩] scope pos) 0 (.ref it) (.ref s2.heap.objs.size) XC.env) (RR (.ref s2.heap.objs.size) s3.heap.objs.size)
   {s3 with heap:=h1,toks:=s3.toks+([]:List (Str×Value)).length}:=by
  refine codeAny_loop rfl (λn s'=>∃i aA H',Inv XC [] aA H' s'∧tn i s'.heap∧(∀b∈fp,H' b=none)∧W i n aA H') (λn s' hI=>?_) m0 ⟨0,_,_,I4,yh,λb hb=>(f3 b hb).1,w0⟩;obtain ⟨i,aA,H',I5,mT,p9,w5⟩:=hI;show wpAny _ X.A ((compTurn (.ListComp elt [⟨tg,iter,ifs,0⟩] scope pos) 0 (.ref it) (.ref s2.heap.objs.size) XC.env).onRaise (λx=>do noteFrame x XC.env;theTreesLotGoes x)) _ _ s'
  refine wpAny_noted ?_;rw [compTurn_list]
  have gd:∀{α:Type}{t:Sem α}{Q:α→Shared→Prop}{E:Value→Shared→Prop}{s:Shared},wpAny (model XC.prog XC.w) XC.A t Q XC.xe s→wpAny (model X.prog X.w) X.A t Q E s:=λ {α t Q E s} h=>by
   subst hX;exact wpAny_mono h (λ_ _ q=>q) λ_ _ f=>f.elim
  have wg:XC.calm=true:=by subst hX;exact hc
  have eP:XC.prog=X.prog:=by subst hX;rfl
  have ew:XC.w=X.w:=by subst hX;rfl
  have eK:XC.K=X.K:=by subst hX;rfl
  have eA:XC.A=X.A:=by subst hX;rfl
  have Ac:PG XC tg g:=by subst hX;exact hg _ _
  have AD:ko XC ifs tt:=by subst hX;exact ht _ _
  have z8:PE XC elt te:=by subst hX;exact he _ _
  refine wpAny_bind (wpAny_standAt (wpAny_bind ?_))
  rcases turn i n aA H' w5 with ⟨stop,qn⟩ | ⟨go,N,hN,step⟩
  ·have hd:=T.done XC eP ew eK wg i [] s' aA H' (notedBy (model X.prog X.w) X.A XC.env λe s'=>RR (.ref s2.heap.objs.size) s3.heap.objs.size (.error e) s') I5 (stat p9) mT stop
   rw [eA] at hd;refine thn hd λr s6 ⟨hr,I6⟩=>?_;subst hr;refine wpAny_pure ?_;subst hX;exact z3 _ s3 H3 aA H' s6 I3 f3 I6 qn
  ·have hd:=T.item XC eP ew eK wg i [] s' aA H' (notedBy (model X.prog X.w) X.A XC.env λe s'=>RR (.ref s2.heap.objs.size) s3.heap.objs.size (.error e) s') I5 (stat p9) mT go
   rw [eA] at hd;refine thn hd λr s6 ⟨u,hr,h6⟩=>?_;subst hr;refine wpAny_bind (thn h6 λ_ s7 ⟨x,H7,I7,r7,y7,uf,zR⟩=>?_);have yO:=I7.pinned (stat zR) (T.obj _ _ uf)
   have again:∀{iq:St}{H8:Hp}{s8:Shared},Inv XC ([]++fv fp s7.heap) iq H8 s8→N iq H8→∃m,m<n∧∃i aA H',Inv XC [] aA H' s8∧tn i s8.heap∧(∀b∈fp,H' b=none)∧W i m aA H':=λ {iq H8 s8} I8 n8=>by
    obtain ⟨m',hm,w8⟩:=hN iq H8 n8;refine ⟨m',hm,i+1,iq,H8,I8.ef,T.keep _ _ _ uf λb hb o e=>(I8.pin (b,o) (eR _ (eR _ (cO hb e)))).1,λb hb=>?_,w8⟩;obtain ⟨o,e,d⟩:=T.obj _ _ uf b hb;exact (I8.pin (b,o) (eR _ (eR _ (cO hb e)))).2.1
   refine wpAny_bind (gd (thn (Ac _ s7 aA H7 x u _ yO r7 (step x H7 y7)) λ_ s8 ⟨iq,H8,I8,q8⟩=>?_));refine wpAny_bind (gd (thn (AD _ s8 iq H8 _ I8 q8) λb s9 ⟨H9,I9,q9⟩=>?_));cases b with
   |false=>
    rw [if_neg g9] at q9;exact wpAny_pure ⟨by subst hX;rfl,again I9 q9⟩
   |true=>
    rw [if_pos rfl] at q9;refine wpAny_bind (wpAny_bind (gd (thn (z8 _ s9 iq H9 _ I9 q9) λy qI ⟨v,yL,yM,DM,ys,hD,hz,DK⟩=>?_)));refine wpAny_bind (gd (thn (eJ _ qI iq yL (.ref s2.heap.objs.size) [v] _ [y] (λ_ H'=>N iq H') yM rfl (.cons DM .nil) ⟨_,ys,v,rfl,rfl,hD,hz,DK⟩) λ_ qJ ⟨_,EI,yN,_,DL⟩=>?_));exact wpAny_pure (wpAny_pure ⟨by subst hX;rfl,again yN DL⟩)
 subst hX;exact codeAny_compStart_list loop (T.self _ 0 _ _ _ yh loop)
theorem i9(hc:X.calm=true)(c:aR X scope)(ez:bH scope X.N src NC)(hi:PI X tg iter wi)
  (hg:∀ex s H,PG (dE X scope NC ex s H) tg g) (ht:∀ex s H,ko (dE X scope NC ex s H) ifs tt) (he:∀ex s H,PE (dE X scope NC ex s H) elt te)
  (hs:∀x,foldedSetIterable iter X.env x=pure x:=by intro _;rfl):PE X (.ListComp elt [⟨tg,iter,ifs,0⟩] scope pos) (um wi g tt te src):=by
 intro pins s σ H Q I h;rw [eval_ListComp];refine wpAny_comprehension_free (use:=none) rfl hs (c8 (c.cells I.ok)) c.kind c.names (thn (hi pins s σ H _ I h) λv s1 h1=>thn h1 λmr s2 h2=>?_);obtain ⟨it,fp,tn,J,H2,rfl,I2,T,ip,f2,hW⟩:=h2;refine fQ (RR:=λacc C=>compPost (model X.prog X.w) X.A X.xe none (EP X pins σ Q) acc C) (Q:=Q) hc c ez I2 T ip f2 (hg fp) (ht fp) (he fp) hW ?_;intro D s3 H3 aA H' s' I3 f3 J' q;obtain ⟨m,hn,_⟩:=J'.loc;exact ⟨m,hn,λh' sb=>⟨.ref D,H',comp_back I3 f3 J' sb,rfl,q⟩⟩
def qR(wi:TI)(g:TG)(tt:TT)(te:TE)(src:List (Option Nat))(i:Nat):TS:=λD σ H=>um wi g tt te src σ H λv H'=>D.nx (σ.set i (some v)) H'
theorem iF{i:Nat}{x:Str}{px r6:Pos}(hc:X.calm=true)(hN:X.N.Nodup)(qf:X.N[i]? =some x)(hx:Loc X.env.scope x)(c:aR X scope)(ez:bH scope X.N src NC)(hi:PI X tg iter wi)
  (hg:∀ex s H,PG (dE X scope NC ex s H) tg g) (ht:∀ex s H,ko (dE X scope NC ex s H) ifs tt) (he:∀ex s H,PE (dE X scope NC ex s H) elt te)
  (AA:swapsWith (.ListComp elt [⟨tg,iter,ifs,0⟩] scope pos) (some (.Name x px)) r6.line X.env=pure true)
  (hf:X.fn x=true∨X.env.scope.names.lookup x=some .local:=by first|exact .inl rfl|exact .inr rfl|assumption)
  (hs:∀x,foldedSetIterable iter X.env x=pure x:=by intro _;rfl):PS X (.Assign [.Name x px] (.ListComp elt [⟨tg,iter,ifs,0⟩] scope pos) r6) (qR wi g tt te src i):=by
 intro pins s σ H D I h;rw [exec_Assign_Name_used _ _ _ _ AA];refine wpAny_bind (wpAny_standAt (wpAny_bind ?_));show wpAny _ X.A (do let _ ←comprehension (.ListComp elt [⟨tg,iter,ifs,0⟩] scope pos) scope X.env _ (newList []) false (eval iter X.env) (some (assign (.Name x px) X.env))) _ _ s
 refine wpAny_bind (wpAny_mono (wpAny_comprehension_free (use:=some (assign (.Name x px) X.env)) (Q:=λ_ s'=>SP X pins D .next s') rfl hs (c8 (c.cells I.ok)) c.kind c.names
  (thn (hi pins s σ H _ I h) λv s1 h1=>thn h1 λmr s2 h2=>?_)) (λ_ s' hq=>wpAny_pure (wpAny_pure hq)) λ_ _ e=>e)
 obtain ⟨it,fp,tn,J,H2,rfl,I2,T,ip,f2,hW⟩:=h2;refine fQ (RR:=λacc C=>compPost (model X.prog X.w) X.A X.xe (some (assign (.Name x px) X.env)) (λ_ s'=>SP X pins D .next s') acc C) (Q:=λv H'=>D.nx (σ.set i (some v)) H') hc c ez I2 T ip f2 (hg fp) (ht fp) (he fp) hW ?_;intro a s3 H3 aA H' s' I3 f3 J' q;obtain ⟨m,hn,_⟩:=J'.loc;have IX:Inv X pins σ H' s':=comp_back I3 f3 J' (.refl ..);show wpAny _ X.A (assign (.Name x px) X.env (.ref a)) _ _ _;have nL:s3.heap.objs.size≠X.env.locals:=Nat.ne_of_gt I3.lt
 have nc:∀y d,X.env.cells.lookup y=some d→d≠s3.heap.objs.size:=λy d e z=>by
  obtain ⟨v,hv⟩:=I3.cell y d e
  have:=hv.lt
  rw [z] at this;exact absurd this (fZ _)
 have np:∀p∈X.pn++pins,p.1≠s3.heap.objs.size:=λp hp z=>by
  have:=Heap.lt_size (I3.pin p hp).1
  rw [z] at this;exact absurd this (fZ _)
 obtain ⟨oC,es,ep,Ak,wo,rC⟩:=id hn;have vZ:H' s3.heap.objs.size=none:=J'.free
 have IP:Inv X ((s3.heap.objs.size,oC)::pins) σ H' s':=IX.fw λp hp=>by
  rcases cF.mp hp with z|z
  ·rw [z]
   exact ⟨Ak,vZ,nL,I3.rR (bx _),λv w=>by rw [wo] at w;cases w⟩
  ·exact IX.pin p (eR _ z)
 refine wpAny_assign_Name (ee (x:=x) IP hN qf hx (v:= .ref a) rfl (λs5 I5=>?_) hf);have zT:=(I5.pin (s3.heap.objs.size,oC) (eR _ de)).1;refine ⟨m,⟨oC,es,ep,zT,wo,rC⟩,λh6 sb=>?_⟩;have sk:Inv X pins (σ.set i (some (.ref a))) H' s5:=I5.fw λp hp=>I5.pin p (eR _ (dB _ hp));exact ⟨_,H',sk.turned (t':=s5.toks) (it:=s3.heap.objs.size) (λb o hb e=>sb.extBut b o hb e) vZ nL (.inr I3.sz) nc np,q⟩
end
theorem gG{J:It}{g:TG}{tt:TT}{te:TE}{D:Addr}{σ:St}{H:Hp}{Q:VK}(n:Nat)(Pv:Nat→St→Hp→Prop)(h0:Pv 0 σ H)
  (Af:∀i σ H,i<n→Pv i σ H→J.go i H) (tK:∀i σ H,n≤i→Pv i σ H→J.stop i H)
  (hs:∀i x σ H H3,i<n→Pv i σ H→J.yld i H x H3→g x σ H3 λcy H4=>tt cy H4 λb H5=>
   if b=true then te cy H5 λv H6=>∃ys,H6 D=some (.lst ys)∧ys.length<sizeLine∧Pv (i+1) cy (upd H6 D (.lst (ys++ [v]))) else Pv (i+1) cy H5)
  (hd:∀σ H,Pv n σ H→Q (.ref D) H):uS J g tt te D Q σ H:=by
 refine ⟨λi m σ H=>m=n-i∧i≤n∧Pv i σ H,⟨n,by simp,Nat.zero_le _,h0⟩,?_⟩
 rintro i m σ H ⟨rfl,hi,p⟩
 by_cases ek:i<n
 ·exact .inr ⟨Af i σ H ek p,Pv (i+1),λaA H' p'=>⟨n-(i+1),by omega,rfl,ek,p'⟩,λx H3 y=>hs i x σ H H3 ek p y⟩
 ·have e:i=n:=by omega
  subst e;exact .inl ⟨tK _ σ H (bx _) p,hd σ H p⟩
section
variable {X:Cx} {pins:List (Addr×Obj)} {σ:St} {H:Hp} {s:Shared} {h':Heap} {fp:List Addr}
theorem Inv.j9{t':Nat}(I:Inv X pins σ H s)(hf:∀b∈fp,cn X pins H b)(k:∀b o,b∉fp→s.heap.get? b=some o→h'.get? b=some o):Inv X pins σ H {s with heap:=h',toks:=t'}:=by
 refine I.step (g':=s.gens) (d':=s.drawn) (ch:=fp) (λb hb=>?_) (λb o _ _ hc e _=>k b o hc e) (λb o _ _ hc e _=>⟨o.slots,k b o hc e⟩) (λ_ _ _ _ n=>n)
  (λb o hc e=>⟨o,k b o hc e⟩) (λ_ _ e=>e) (λ_ _ _ e=>e) (λb ps e=>⟨#[],by rw [e];simp⟩) (λm hm=>?_) (λb u e=>?_) I.bare
 ·obtain ⟨_,f1,_,f3,f4,f5⟩:=hf b hb
  exact ⟨f3,f1,f4,f5⟩
 ·obtain ⟨o,es,ep,ho,r⟩:=hm
  exact ⟨o,es,ep,k _ o (λz=>(hf _ z).2.1 rfl) ho,r⟩
 ·have nf:∀b u,H b=some u→b∉fp:=λb u e z=>by rw [(hf b z).1] at e;cases e
  refine (I.hok b u e).fA (λc v hc q=>k c v ?_ q) (λ_ q=>q) λ_ _ q=>q
  rcases hc with z|z
  ·rw [z];exact nf b u e
  ·exact nf c _ z
theorem Inv.pH{t':Nat}{t:Addr}{o:HO}(I:Inv X pins σ H s)(hf:∀b∈fp,cn X pins H b)(k:∀b o,b∉fp→s.heap.get? b=some o→h'.get? b=some o)(ht:s.heap.objs.size≤t)
  (new:aI X.prog X.w (upd H t o) h' t o):Inv X pins σ (upd H t o) {s with heap:=h',toks:=t'}:=by
 have nt:H t=none:=I.hok.fresh ht;have up:∀b u,H b=some u→upd H t o b=some u:=λb u e=>by rw [af (aj e nt)];exact e
 refine I.step (g':=s.gens) (d':=s.drawn) (ch:=fp) (λb hb=>?_) (λb o _ _ hc e _=>k b o hc e) (λb o _ _ hc e _=>⟨o.slots,k b o hc e⟩) (λb o _ e n=>?_)
  (λb o hc e=>⟨o,k b o hc e⟩) (λb xs e=>up b _ e) (λb _ _ e=>up b _ e) (λb ps e=>⟨#[],by rw [up b _ e];simp⟩) (λm hm=>?_) (λb u e=>?_) I.bare
 ·obtain ⟨_,f1,_,f3,f4,f5⟩:=hf b hb
  exact ⟨f3,f1,f4,f5⟩
 ·rw [af (cG (el (Heap.lt_size e) ht))];exact n
 ·obtain ⟨o,es,ep,ho,r⟩:=hm
  exact ⟨o,es,ep,k _ o (λz=>(hf _ z).2.1 rfl) ho,r⟩
 ·by_cases hb:b=t
  ·subst hb
   rw [ae] at e;cases e;exact new
  ·rw [af hb] at e
   have nf:∀b u,H b=some u→b∉fp:=λb u e z=>by rw [(hf b z).1] at e;cases e
   refine (I.hok b u e).fA (λc v hc q=>k c v ?_ q) (λb' q=>up b' _ q) λb' _ q=>up b' _ q
   rcases hc with z|z
   ·rw [z];exact nf b u e
   ·exact nf c _ z
end
def m8(K:PySem.W.Frag)(a:Addr):It:=
 ⟨λi H=>∃xs x,ay K H a xs∧xs[i]? =some x,λi H y H'=>∃t x,y= .ref t∧H t=none∧H'=upd H t (.tup [.int i,x])∧∀xs,ay K H a xs→xs[i]? =some x,λi H=>∃xs,ay K H a xs∧xs.length≤i⟩
theorem jI{h:Heap}{t:Addr}{u v:Value}(e:h.get? t=some {cls:= .type "tuple",data:= .seq #[u,v]}):IsTup h t [u,v].toArray:=⟨_,e,rfl,_,rfl⟩
theorem lh{P:Program}{w:World}{K:PySem.W.Frag}{es:List Expr}{k1}{tp:Pos}(a e it:Addr)(ne:e≠it):
  Turn P w K (.Tuple es k1 tp) (m8 K a) [e,it] e (λi h=>(∃old,IsEnum h e it i old)∧h.IsListIter it a i) where
 mem:=by simp
 obj:=λi h st b hb=>by
  obtain ⟨⟨old,he⟩,o,e2,c,d⟩:=st
  rcases cF.mp hb with z|z
  ·subst z
   exact ⟨_,he,λv w=>by cases w⟩
  ·have z':b=it:=by simpa using z
   subst z';exact ⟨o,e2,λv z=>by rw [d] at z;cases z⟩
 keep:=λi h h' st k=>by
  obtain ⟨⟨old,he⟩,ip⟩:=st;exact ⟨⟨old,k e (by simp) _ he⟩,ip.at λo q=>k it (by simp) o q⟩
 item:=by
  intro X hP hw hK hc i pins s σ H E I hf st hg;subst hP hw hK;obtain ⟨xs,x,hq,hx⟩:=hg;obtain ⟨its,rv,p,hz⟩:=I.list hq;obtain ⟨u,hu,ru⟩:=rv.get hx;obtain ⟨⟨old,he⟩,hit⟩:=st;refine wpAny_pyNext_enum_item he hit p.isList (x:=u) (by simpa using hu) ne λh' z6 wx oo Ew kk=>?_
  have k2:∀b o,b∉ [e,it]→s.heap.get? b=some o→h'.get? b=some o:=λb o hb q=>kk b o (λz=>hb (by simp [z])) (λz=>hb (by simp [z])) q
  have I1:Inv X pins σ (upd H s.heap.objs.size (.tup [.int i,x])) {s with heap:=h',toks:=s.toks+1}:=
   I.pH hf k2 (bx _) ⟨by show 2≤sizeLine;decide,[.int i s.toks,u], .cons ⟨_,rfl⟩ (.cons ru .nil),jI oo⟩
  refine ⟨_,rfl,wpAny_letOwnedTupleGo_enum z6 λh2 z7 sb=>?_⟩
  have lt:∀b∈ [e,it],b<s.heap.objs.size:=λb hb=>by
   rcases cF.mp hb with z|z
   ·rw [z];exact Heap.lt_size he
   ·obtain ⟨o,e2,_⟩:=hit
    have z':b=it:=by simpa using z
    rw [z'];exact Heap.lt_size e2
  have wq:∀b∈ [e,it],cn X pins (upd H s.heap.objs.size (.tup [.int i,x])) b:=λb hb=>⟨by rw [af (cG (lt b hb))];exact (hf b hb).1,(hf b hb).2⟩
  refine ⟨.ref s.heap.objs.size,_,I1.j9 (t':=s.toks+1) wq (λb o hb q=>sb.extBut b o (λz=>hb (by simp [z])) q),rfl,⟨_,x,rfl,I.hok.fresh (bx _),rfl,λys hy=>by rw [I.fJ hy hq];exact hx⟩,⟨⟨u,?_⟩,wx.extBut sb.extBut (Ne.symm ne)⟩,λb hb=>(wq b hb).1⟩
  have z:((i+1:Nat):Int)=(i:Int)+1:=by omega
  rw [z];exact z7
 done:=by
  intro X hP hw hK hc i pins s σ H E I hf st hg;subst hP hw hK;obtain ⟨xs,hq,hx⟩:=hg;obtain ⟨its,rv,p,hz⟩:=I.list hq;have hl:=rv.length;obtain ⟨⟨old,he⟩,hit⟩:=st;exact wpAny_pyNext_enum_end (I.ok.hd hc) he hit p.isList (by simp;omega) λh' eb=>⟨rfl,I.j9 (t':=s.toks) hf λb o hb q=>eb b o (λz=>hb (by simp [z])) q⟩
 self:=λ_ _ _ _ _ st h=>by
  obtain ⟨⟨old,he⟩,_⟩:=st;exact wpAny_pyIter_enum he h
section
variable {X:Cx}
def tP(K:PySem.W.Frag)(ta:TA):TI:=λσ H R=>ta σ H λvs H1=>∃a,vs= [.ref a]∧(∃xs,H1 a=some (.lst xs))∧R (m8 K a) H1
theorem jW{a:Expr}{ta:TA}{p pos:Pos}{es:List Expr}{k1}{tp:Pos}(hg:Gl X "enumerate")(hm:X.mg "enumerate"=none)(ha:PA X [a] ta)(hs:starEach [a] X.env= [(false,eval a X.env)]:=by rfl):
  PI X (.Tuple es k1 tp) (.Call (.Name "enumerate" p) [a] [] pos) (tP X.K ta):=by
 intro pins s σ H R I h;refine Call_ (dW I hg hm boot_enumerate (PyProof.Rows.callWith_type1 (thn (ha pos pins s σ H _ I h) λus s1 ⟨vs,H1,I1,r1,q1⟩=>?_) hs rfl));obtain ⟨l,e,⟨xs,hl⟩,q⟩:=q1;subst e;obtain ⟨u,rfl,ru⟩:=r1.one;cases ru;obtain ⟨z,its,n,rv,hlen,e⟩:=I1.lB hl;refine call_enumerate_1 e λh' he hit AB kk=>?_;refine wpAny_pyIter_enum he ?_;have qh:s1.heap.objs.size+1≠s1.heap.objs.size:=Nat.succ_ne_self _;refine ⟨s1.heap.objs.size+1,[s1.heap.objs.size+1,s1.heap.objs.size],_,_,H1,rfl,I1.kept (t':=s1.toks) kk,lh l _ _ qh,⟨⟨_,he⟩,hit⟩,λb hb=>?_,q⟩
 have qc:s1.heap.objs.size≤b:=by
  rcases cF.mp hb with z|z
  ·rw [z];exact Nat.le_succ _
  ·have z':b=s1.heap.objs.size:=by simpa using z
   rw [z'];exact bx _
 exact I1.lx qc (I1.hok.fresh qc)
end
end L2
namespace Wb
abbrev W:=List (List Nat)
def row(w:W)(p:Nat):List Nat:=w.getD p []
inductive Reach (w:W):Nat→Nat→Prop
 |refl (p):Reach w p p
 |step {p q r}:Reach w p q→r∈row w q→Reach w p r
structure Good (w:W):Prop where
 rng:∀p q,q∈row w p→q<w.length
 irr:∀p,p∉row w p
 nod:∀p,(row w p).Nodup
 sym:∀p q,q∈row w p→p∈row w q
 con:∀p,p<w.length→Reach w 0 p
end Wb
namespace L2
open PySem PySem.Spec PyProof.Rows
mutual
inductive Dp (K:PySem.W.Frag) (H:Hp):V→PyData→Prop
 |aC:Dp K H .aC .none
 |bl (b:Bool):Dp K H (.bl b) (.bool b)
 |int (i:Int):Dp K H (.int i) (.int i)
 |str (x:Str) (h:PyData.strOk x=true):Dp K H (.str x) (.str x)
 |lst {a:Addr} {xs:List V} {ds:List PyData}:ay K H a xs→cg K H xs ds→Dp K H (.ref a) (.list ds)
 |tup {a:Addr} {xs:List V} {ds:List PyData}:bF K H a xs→cg K H xs ds→Dp K H (.ref a) (.tuple ds)
inductive cg (K:PySem.W.Frag) (H:Hp):List V→List PyData→Prop
 |nil:cg K H [] []
 |cons {v:V} {vs:List V} {d:PyData} {ds:List PyData}:Dp K H v d→cg K H vs ds→cg K H (v::vs) (d::ds)
end
section
variable {X:Cx} {pins:List (Addr×Obj)} {σ:St} {H:Hp} {s:Shared}
mutual
theorem Dp.reads(I:Inv X pins σ H s):∀{v:V}{d:PyData}{u:Value},Dp X.K H v d→RelV v u→(∃as,Reads s.heap u d as)∧d.canLay0=true
 |_,_,_, .aC,r=>by cases r;exact ⟨⟨_, .none⟩,rfl⟩
 |_,_,_, .bl b,r=>by cases r;exact ⟨⟨_, .bool b⟩,rfl⟩
 |_,_,_, .int i,r=>by obtain ⟨t,rfl⟩:=r;exact ⟨⟨_, .int i t⟩,rfl⟩
 |_,_,_, .str x h,r=>by obtain ⟨t,rfl⟩:=r;exact ⟨⟨_, .str x t⟩,by simpa [PyData.canLay0] using h⟩
 |_,_,_, .lst h a,r=>by
  cases r;obtain ⟨its,rv,pl,hz⟩:=I.list h;obtain ⟨⟨as,ra⟩,c⟩:=cg.reads I a rv;obtain ⟨o,ho,hc,n,hd⟩:=pl.isList;exact ⟨⟨_, .list ho hc hd (by simpa using ra)⟩,by simpa [PyData.canLay0] using c⟩
 |_,_,_, .tup h a,r=>by
  cases r;obtain ⟨its,rv,pl,hz⟩:=I.tuple h;obtain ⟨⟨as,ra⟩,c⟩:=cg.reads I a rv;obtain ⟨o,ho,hc,n,hd⟩:=pl;exact ⟨⟨_, .tuple ho hc hd (by simpa using ra)⟩,by simpa [PyData.canLay0] using c⟩
theorem cg.reads(I:Inv X pins σ H s):∀{vs:List V}{ds:List PyData}{us:List Value},cg X.K H vs ds→Vals vs us→(∃as,ReadsAll s.heap us ds as)∧PyData.canLayAll0 ds=true
 |_,_,_, .nil, .nil=>⟨⟨_, .nil⟩,by simp [PyData.canLayAll0]⟩
 |_,_,_, .cons a as, .cons r rs=>by
  obtain ⟨⟨x,h1⟩,c1⟩:=Dp.reads I a r;obtain ⟨⟨y,h2⟩,c2⟩:=cg.reads I as rs;exact ⟨⟨_, .cons h1 h2⟩,by simp [PyData.canLayAll0,c1,c2]⟩
end
end
section
variable {X:Cx}
def xW(K:PySem.W.Frag):R2:=λx y H Q=>∃d e,Dp K H x d∧Dp K H y e∧d.depth≤64∧Q (.bl (PyData.eqv d e)) H
def xX(K:PySem.W.Frag):R2:=λx y H Q=>∃d e,Dp K H x d∧Dp K H y e∧d.depth≤64∧Q (.bl (!PyData.eqv d e)) H
theorem qF(hu:X.A.units+64<cLine):OpR X (compareOp .Eq) (xW X.K):=by
 intro pins s σ H x y v u Q I rx ry h;obtain ⟨d,e,hd,he,hz,q⟩:=h;obtain ⟨⟨as,r1⟩,c1⟩:=hd.reads I rx;obtain ⟨⟨bs,r2⟩,c2⟩:=he.reads I ry;exact SeqAt.compareEq_reads r1 r2 c1 c2 (by have:=Nat.min_le_left d.depth e.depth;omega) ⟨.bl _,H,I,rfl,q⟩
theorem lG(hu:X.A.units+64<cLine):OpR X (compareOp .NotEq) (xX X.K):=by
 intro pins s σ H x y v u Q I rx ry h;obtain ⟨d,e,hd,he,hz,q⟩:=h;obtain ⟨⟨as,r1⟩,c1⟩:=hd.reads I rx;obtain ⟨⟨bs,r2⟩,c2⟩:=he.reads I ry;exact SeqAt.compareNe_reads r1 r2 c1 c2 (by have:=Nat.min_le_left d.depth e.depth;omega) ⟨.bl _,H,I,rfl,q⟩
end
theorem ey{α:Type}{f:α→PyData}{k:Nat}(hf:∀a,(f a).depth≤k):∀xs:List α,PyData.depthAll (xs.map f)≤k
 | []=>by simp [PyData.depthAll]
 |a::xs=>by
  have:=hf a
  have ih:=ey hf xs;simp [PyData.depthAll];omega
end L2
namespace L2
open PySem PySem.Spec PyProof.Rows
theorem Vals.of_get:∀{xs:List V}{us:List Value},xs.length=us.length→(∀(k:Nat) x u,xs[k]? =some x→us[k]? =some u→RelV x u)→Vals xs us
 | [],[],_,_=> .nil
 | [],_::_,h,_=>by simp at h
 |_::_,[],h,_=>by simp at h
 |x::xs,u::us,h,r=> .cons (r 0 x u rfl rfl) (Vals.of_get (by simpa using h) λk y w h1 h2=>r (k+1) y w (by simpa using h1) (by simpa using h2))
section
variable {X:Cx}
theorem me(hc:X.calm=true):CallR X (.builtin "all") (λxs H Q=>∃(p:Addr)(bs:List Bool),xs= [.ref p]∧H p=some (.lst (bs.map V.bl))∧Q (.bl (bs.all id)) H):=by
 intro pins s σ H xs us Q I rv h;obtain ⟨p,bs,rfl,hp,q⟩:=h;obtain ⟨u,rfl,ru⟩:=rv.one;cases ru;obtain ⟨its,r,pl,hz⟩:=I.list (ay.of hp);have hl:=r.length;rw [dQ] at hl;refine call_all_walk (wpAny_pyIter_list pl.isList ?_)
 have qh:p≠s.heap.objs.size:=by
  obtain ⟨o,ho,_⟩:=pl.isList;exact cG (Heap.lt_size ho)
 have mr:∀i:Nat,i<its.length→∃b,bs[i]? =some b∧its[i]? =some (.bool b):=λi hi=>by
  obtain ⟨b,hb⟩:∃b,bs[i]? =some b:=⟨_,fX (by omega)⟩
  obtain ⟨w,hw,oX⟩:=r.get (i:=i) (x:= .bl b) (by rw [fY,hb];rfl)
  cases oX;exact ⟨b,hb,hw⟩
 refine ⟨_,_,_,its.toArray.size,_,_,λi=>bs.getD i false,rfl,Walks.list (show X.A.in1.handled=none from I.ok.hd hc) s.heap.objs.size p qh its.toArray,⟨⟨_,Heap.get?_push_size _ rfl,rfl,rfl⟩,pl.isList.push _⟩,?_,λh' tk kk=>?_⟩
 ·intro i v s Q E hv hq
  have tM:its[i]? =some v:=by simpa using hv
  have hi:i<its.length:=by
   obtain ⟨h1,_⟩:=jk.mp tM;exact h1
  obtain ⟨b,hb,hw⟩:=mr i hi;rw [hw] at tM;cases tM;refine wpAny_truthy_bool ?_;have jE:Q (bs.getD i false) s:=hq;rw [kf,hb] at jE;exact jE
 ·have kept:∀b o,s.heap.get? b=some o→h'.get? b=some o:=λb o e=>kk b o (by simp;exact cG (Heap.lt_size e)) (Heap.get?_push_of_some _ e)
  have e:(List.range its.toArray.size).all (λi=>bs.getD i false)=bs.all id:=by
   rw [cH,←hl];rw [kg,List.all_eq_true,List.all_eq_true]
   constructor
   ·intro h x hx
    obtain ⟨i,hi,rfl⟩:=List.mem_iff_getElem.mp hx
    have:=h i (ki.mpr hi)
    rw [kf,fX hi] at this;exact this
   ·intro h i hi
    have qf:=ki.mp hi;rw [kf,fX qf];exact h _ (List.getElem_mem qf)
  rw [e];exact ⟨.bl _,H,I.kept kept,rfl,q⟩
theorem cx:CallR X (.builtin "isinstance") (λxs H Q=>∃(x:V)(n:String)(t:Value)(b:Bool),xs= [x, .ty n]∧bD X.K H x t∧PySem.W.kitOne X.K t (.type n)=some b∧Q (.bl b) H):=by
 intro pins s σ H xs us Q I rv h;obtain ⟨x,n,t,b,rfl,ty,e,q⟩:=h;obtain ⟨u1,u2,rfl,r1,r2⟩:=rv.two;cases r2;exact kM I r1 ty e λtk=>⟨.bl b,H,I.tok _,rfl,q⟩
def dn(i:Int)(n:Nat):List V:=(List.range n).map λ(k:Nat)=>V.int (i+(k:Int))
theorem gx(hc:X.calm=true):CallR X (.type "list") (λxs H Q=>∃(p:Addr)(i j:Int),xs= [.ref p]∧H p=some (.rng i j)∧-(2^62)≤i∧i<2^62∧-(2^62)≤j∧j<2^62∧(j-i).toNat≤1000∧
  ∀q,H q=none→Q (.ref q) (upd H q (.lst (dn i (j-i).toNat)))):=by
 intro pins s σ H xs us Q I rv h;obtain ⟨p,i,j,rfl,hp,h1,h2,h3,h4,hz,q⟩:=h;obtain ⟨u,rfl,ru⟩:=rv.one;cases ru;obtain ⟨t,u,v,e⟩:=(show aI X.prog X.w H s.heap p (.rng i j) from I.hok p _ hp);refine call_list_range (n:=(j-i).toNat) (I.ok.hd hc) e (small_one h1 h2 h3 h4) ?_ (by omega) λh' tk acc c kk hS rJ=>?_
 ·rw [rangeSize_one];split<;>omega
 ·have n9:1000≤sizeLine:=by decide
  refine ⟨.ref s.heap.objs.size,_,I.laid kk (bx _) (o:= .lst (dn i (j-i).toNat)) ⟨by unfold dn;simp;omega,acc.toList,c,?_,by simpa using hS⟩,rfl,q _ (I.hok.fresh (bx _))⟩
  refine Vals.of_get (by unfold dn;simp [rJ.1]) λk x w hx hw=>?_
  unfold dn at hx;rw [fY] at hx;obtain ⟨t',oo⟩:=rJ.2 k w (by rw [←Array.getElem?_toList];exact hw)
  have hk:(List.range (j-i).toNat)[k]? =some k:=by
   cases q:(List.range (j-i).toNat)[k]? with
   |none=>rw [q] at hx;cases hx
   |some z=>
    obtain ⟨a,b⟩:=jk.mp q;rw [List.getElem_range] at b;rw [b]
  rw [hk] at hx;cases hx;exact ⟨t',by rw [oo,Int.mul_one]⟩
end
end L2
set_option maxHeartbeats 4000000
namespace L2
open PySem PySem.Spec PySem.Calls PyProof.Rows PySem.W Builtin Builtin.ObjectAttr
def ft:List Value→Bool
 | [.type a, .type b, .type c, .type d]=>a=="ValueError"&&b=="Exception"&&c=="BaseException"&&d=="object"
 | .ref _::r=>ft r
 |_=>false
def lH(K:Frag)(C:Addr):Bool:=(clsIn K C).any λcd=>ft cd.mro
structure cZ (K:Frag) (C:Addr):Prop where
 hd:hasDictIn K C=true
 ga:findIn K (.ref C) "__getattribute__"=some (some (.builtin "BaseException.__getattribute__"))
 gh:findIn K (.ref C) "__getattr__"=some none
 sa:findIn K (.ref C) "__setattr__"=some (some (.builtin "object.__setattr__"))
 ov:lH K C=true
 cl:findIn K (.ref C) "__class__"=some (some (.builtin "object.__class__"))
 be:mroIn K C (.type "BaseException")=some true
 ob:mroIn K C (.type "object")=some true
section
variable {prog:Program} {w:World} {A:Around} {E:Value→Shared→Prop} {s:Shared} {K:Frag} {x C:Addr} {ox:Obj} {od:Option Obj} {name:Str}
theorem iI{fill expr:Bool}{tk:Tok}{Q:Value→Shared→Prop}(X:K.In s.heap)(I:InstAt s.heap x ox C od)(c:cZ K C)
  (h:wpAny (model prog w) A.in1 (Builtin.«object.__getattribute__» ⟨[.ref x, .str name tk],[]⟩) (λfin s'=>match fin with| .done (.ret v)=>wpAny (model prog w) A (handedOut v) Q E s'|_=>False) (λ_ _=>False) s):
  wpAny (model prog w) A (getAttrBy (.ref x) (.str name tk) fill expr) Q E s:=by
 unfold getAttrBy;refine wpAny_holding (wpAny_bind (I.type _ _ _ _ (λ_ _ e=>e) (wpAny_bind (looks_findIn X c.ga _ _ _ _ (λ_ _ e=>e) ?_))));dsimp only;rw [show (onTheHeap (.ref C)&&Value.builtin "BaseException.__getattribute__"==Value.builtin "object.__getattribute__")=false from by rw [show (Value.builtin "BaseException.__getattribute__"==Value.builtin "object.__getattribute__")=false from by decide+kernel,Bool.and_false],if_neg (by decide)]
 unfold getAttrByItsOwn;refine wpAny_bind (looks_hook (mc:= .ref C) (r:=none) X c.gh _ _ _ _ (λ_ _ e=>e) (wpAny_bind (wpAny_attempt (wpAny_holding ?_))));unfold callGetattribute;rw [show (expr&&onTheHeap (Value.builtin "BaseException.__getattribute__"))=false from Bool.and_false _,if_neg (by decide)]
 unfold boundAndCalled;rw [F.excAttr_ValueError.ga.bind];refine wpAny_bind (wpAny_pure ?_);show wpAny _ _ (call (.builtin "BaseException.__getattribute__") [.ref x, .str name tk]) _ _ _;refine wpAny_call ?_;refine codeAny_call_builtin F.excAttr_ValueError.ga.plain F.entry_bexc_ga ?_;refine @check_slot (model prog w) _ _ s "BaseException.__getattribute__" "BaseException" "__getattribute__" (.ref x) [.str name tk] [] _ (by decide+kernel) (by decide+kernel) (I.type.andThen (looks_mroIn X c.be)) (F.args_bexc_ga (.ref x) (.str name tk)) ?_
 refine wpAny_mono h (λfin s' z=>?_) λ_ _ z=>z.elim
 rcases fin with (_|_|_|_) |_<;>first|exact z|exact z.elim
theorem ll{tk:Tok}{v:Value}{Q:Fin→Shared→Prop}(X:K.In s.heap)(I:InstAt s.heap x ox C od)(hf:findObj K C od name=some (.value v))(h:Q (.done (.ret v)) s):
  wpAny (model prog w) A (Builtin.«object.__getattribute__» ⟨[.ref x, .str name tk],[]⟩) Q E s:=by
 obtain ⟨Ag,g,d,t,os⟩:=s;have L0:=I.type (M:=model prog w);have L1:=looks_find (M:=model prog w) X I hf;unfold Builtin.«object.__getattribute__»;refine wpAny_bind (wpAny_pure (wpAny_bind (wpAny_pure (wpAny_bind (L0.at (wpAny_bind (L1.at ?_)))))));exact wpAny_pure h
theorem mX{tk:Tok}{g a:Value}{P:Value→Shared→Prop}(X:K.In s.heap)(I:InstAt s.heap x ox C od)(hf:findObj K C od name=some (.bind g a))
  (h:wpAny (model prog w) A (call g [a, .ref x, .ref C]) P E s):
  wpAny (model prog w) A (Builtin.«object.__getattribute__» ⟨[.ref x, .str name tk],[]⟩) (λfin s'=>match fin with| .done (.ret v)=>P v s'|_=>False) E s:=by
 obtain ⟨Ag,gg,d,t,os⟩:=s;have L0:=I.type (M:=model prog w);have L1:=looks_find (M:=model prog w) X I hf;unfold Builtin.«object.__getattribute__»;refine wpAny_bind (wpAny_pure (wpAny_bind (wpAny_pure (wpAny_bind (L0.at (wpAny_bind (L1.at ?_)))))));show wpAny _ _ (holding [a] (call g [a, .ref x, .ref C])>>=ret) _ _ _;exact wpAny_bind (wpAny_holding (wpAny_mono h (λv s' z=>wpAny_pure z) λ_ _ z=>z))
theorem kd{expr:Bool}{v:Value}{Q:Value→Shared→Prop}(X:K.In s.heap)(I:InstAt s.heap x ox C od)(c:cZ K C)(hf:findObj K C od name=some (.value v))(hh:handedIn v=true)(h:Q v {s with toks:=s.toks+1}):
  wpAny (model prog w) A (getAttr (.ref x) name expr) Q E s:=by
 unfold getAttr;refine wpAny_bind (wpAny_mkText ?_);refine iI (s:={s with toks:=s.toks+1}) X I c (ll (s:={s with toks:=s.toks+1}) X I hf ?_)
 show wpAny _ _ (handedOut v) _ _ _;rw [handedOut_of hh];exact wpAny_pure h
theorem ke{Q:Option Value→Shared→Prop}(X:K.In s.heap)(I:InstAt s.heap x ox C od)(c:cZ K C)(hn:specialIn K (.builtin "object.__class__") "__get__"=some (some (.builtin "getset_descriptor.__get__")))(htk:takesIn K (.builtin "object.__class__")=some true)
  (h:Q (some (.ref C)) {s with toks:=s.toks+1}):wpAny (model prog w) A (getAttr? (.ref x) "__class__") Q E s:=by
 have hf:findObj K C od "__class__"=some (.bind (.builtin "getset_descriptor.__get__") (.builtin "object.__class__")):=by
  obtain ⟨cd,hc,_⟩:=any_some c.hd;unfold findObj;rw [hc,iL,c.cl,iL];dsimp only;rw [hn,iL];dsimp only;rw [htk];rfl
 unfold getAttr? getAttrBy?;refine wpAny_bind (wpAny_mkText (wpAny_bind (wpAny_attempt ?_)))
 have key:wpAny (model prog w) A.in1 (Builtin.«object.__getattribute__» ⟨[.ref x, .str "__class__" s.toks],[]⟩) (λfin s'=>match fin with| .done (.ret v)=>v= .ref C∧s'={s with toks:=s.toks+1} |_=>False) (λ_ _=>False) {s with toks:=s.toks+1}:=by
  refine mX (P:=λv s'=>v= .ref C∧s'={s with toks:=s.toks+1}) (s:={s with toks:=s.toks+1}) X I hf (wpAny_call (class_get (s:={s with toks:=s.toks+1}) (ox:=ox) (od:=od) X I c.ob ?_))
  exact ⟨rfl,rfl⟩
 refine iI (s:={s with toks:=s.toks+1}) X I c (wpAny_mono key (λfin s' z=>?_) λ_ _ z=>z.elim)
 rcases fin with (_|_|_|_) |_<;>first|exact z.elim|skip
 obtain ⟨rfl,rfl⟩:=z;exact wpAny_pure (wpAny_pure h)
theorem mx(c:cZ K C)(hn:specialIn K (.builtin "object.__class__") "__get__"=some (some (.builtin "getset_descriptor.__get__")))(htk:takesIn K (.builtin "object.__class__")=some true):
  KitX K (.ref x) (.ref C) (λh=>InstAt h x ox C od) where
 ty:=λ_ _ _ I=>I.type
 it:=λ_ _ X _=>by
  obtain ⟨y6,gE,_⟩:=any_some c.hd;unfold clsIn at gE
  split at gE
  ·rename_i c' d' y3 uc ho
   intro A' Q' E' s' k q;unfold isType loadHead;exact wpAny_bind (wpAny_loadPart (k _ _ (X _ _ ho)) (wpAny_pure q))
  ·cases gE
 ne:=λh tp dd its n sl X tL=>by
  obtain ⟨y6,gE,_⟩:=any_some c.hd;refine Bool.eq_false_iff.mpr λq=>?_;have e:C=tp:=Value.ref.inj (beq_iff_eq.mp q);subst e;unfold clsIn at gE
  split at gE
  ·rename_i c' d' y3 uc ho
   have z:=(X _ _ ho).symm.trans tL;cases z
  ·cases gE
 ca:=λX I k=>ke X I c hn htk k
end
theorem gO(self:Value):∀{l:List Value},ft l=true→refuseLoop self "__setattr__" l=pure ()
 | .ref c::r,e=>by rw [refuseLoop_ref];exact gO self (l:=r) (by cases r<;>first|exact e|cases e)
 | [.type a, .type b, .type c, .type d],e=>by
  simp only [ft,Bool.and_eq_true,beq_iff_eq] at e;obtain ⟨⟨⟨rfl,rfl⟩,rfl⟩,rfl⟩:=e;exact F.store_ValueError.passes self
abbrev aK(C t:Addr)(d:Option Addr):Obj:={cls:= .ref C,dict:=d,data:= .fields #[.ref t, .none, .none, .none, .bool false, .none]}
section
variable {prog:Program} {w:World} {A:Around} {E:Value→Shared→Prop} {s:Shared} {K:Frag} {x C:Addr} {ox:Obj} {od:Option Obj} {name:Str} {R:Result→Shared→Prop}
theorem gY{tk:Tok}{v:Value}(X:K.In s.heap)(I:InstAt s.heap x ox C od)(c:cZ K C)(ht:takerIn K C name=some none)
  (h:∀b,wpAny (model prog w) A.in1 (storeInOwnDict (.ref x) (.ref C) (.str name tk) name v b)
   (λfin s'=>match fin with| .done f=>R (.ok f) s'| .again c'=>c'.quiet=true∧codeAny (model prog w) A c' R s') (λe s'=>R (.error e) s') s):
  codeAny (model prog w) A (.call (.builtin "object.__setattr__") ⟨[.ref x, .str name tk,v],[]⟩) R s:=by
 have SF:=PySem.F.store_object;obtain ⟨cd,hc,ho⟩:=any_some c.ov;have sub:Looks (model prog w) s.heap (isInstance (.ref x) (.type "object")) true:=I.type.andThen (looks_mroIn X c.ob);refine codeAny_call_builtin SF.slot.plain SF.entry (@check_slot (model prog w) _ _ s "object.__setattr__" "object" "__setattr__" (.ref x) [.str name tk,v] [] _ SF.kind SF.split sub (SF.args (.ref x) (.str name tk) v) ?_);obtain ⟨attr,ha,hr⟩:=Option.bind_eq_some_iff.mp ht;have hm:Looks (model prog w) s.heap (mroOf (.ref C)) cd.mro:=(looks_clsIn X hc).andThen .now
 have L3:Looks (model prog w) s.heap (storeTaker? attr) none:=by
  cases attr with
  |none=>exact .now
  |some a=>
   obtain ⟨b,hb,q⟩:=Option.map_eq_some_iff.mp hr;refine (looks_takesIn X hb).andThen ?_;cases b with
   |true=>cases q
   |false=>exact .now
 rw [osa_eq,refuse_eq];refine wpAny_bind (wpAny_bind (I.type.here (wpAny_bind (hm.here ?_))));rw [gO _ ho];refine wpAny_pure (wpAny_bind (I.type.here (wpAny_bind ((looks_findIn X ha).here (wpAny_bind (L3.here ?_))))));exact h _
theorem uK{t dx:Addr}{mA:Str→Option Value}{ns:List Str}{v:Value}{Q:Unit→Shared→Prop}(X:K.In s.heap)(c:cZ K C)(hx:s.heap.get? x=some (aK C t (some dx)))(hn:s.heap.Ns1 dx mA)(ne:dx≠x)(ht:takerIn K C name=some none)
  (hw:PySem.Within mA ns) (AB:ns.length≤sizeLine)
  (h:∀h',h'.Ns1 dx (λy=>if y=name then some v else mA y)→Heap.SameBut dx s.heap h'→Q () {s with heap:=h',toks:=s.toks+2}):
  wpAny (model prog w) A (setAttr (.ref x) name v) Q E s:=by
 obtain ⟨od,ho,_⟩:=eI hn;have J:InstAt s.heap x (aK C t (some dx)) C (some od):=⟨hx,rfl,rfl,ho⟩;refine set_plain X J c.sa (gY (s:={s with toks:=s.toks+1}) X J c ht λb=>?_)
 obtain ⟨cd,hc,eY⟩:=any_some c.hd;refine wpAny_bind (wpAny_pure (wpAny_bind (wpAny_bind (wpAny_loadPart hx (wpAny_bind (Looks.here (s:={s with toks:=s.toks+1}) (looks_clsIn X hc) ?_))))))
 rw [eY];refine wpAny_pure (a:=some dx) (wpAny_bind (wpAny_pure (wpAny_bind ?_)));refine wpAny_nsSet1 (s:={s with toks:=s.toks+1}) hn λh' qg om=>?_
 obtain ⟨oD,zI,zH,tF,tj,gE⟩:=qg.count (PySem.Within.cons name v hw);refine wpAny_bind (wpAny_lookBehind tF (by rw [tj];exact pastItsLine_dict (dR gE (by rw [fP];omega))) ?_)
 exact wpAny_pure (h _ qg om)
theorem uJ{t:Addr}{v:Value}{Q:Unit→Shared→Prop}(X:K.In s.heap)(c:cZ K C)(hx:s.heap.get? x=some (aK C t none))(ht:takerIn K C name=some none)
  (h:∀h',h'.Ns1 s.heap.objs.size (λy=>if y=name then some v else none)→h'.get? x=some (aK C t (some s.heap.objs.size))→(∀b o,b≠x→s.heap.get? b=some o→h'.get? b=some o)→Q () {s with heap:=h',toks:=s.toks+2}):
  wpAny (model prog w) A (setAttr (.ref x) name v) Q E s:=by
 have J:InstAt s.heap x (aK C t none) C none:=⟨hx,rfl,rfl,trivial⟩;refine set_plain X J c.sa (gY (s:={s with toks:=s.toks+1}) X J c ht λb=>?_)
 obtain ⟨cd,hc,eY⟩:=any_some c.hd;obtain ⟨hp,g,d,tk,os⟩:=s;dsimp only at*;have oq:(hp.push {cls:= .type "dict",data:= .dict #[]}).get? x=some (aK C t none):=Heap.get?_push_of_some _ hx;have wN:x≠hp.objs.size:=cG (Heap.lt_size hx);refine wpAny_bind (wpAny_pure (wpAny_bind (wpAny_bind (wpAny_loadPart hx (wpAny_bind (Looks.here (s:=⟨hp,g,d,tk+1,os⟩) (looks_clsIn X hc) ?_))))));rw [eY];refine wpAny_bind (wpAny_alloc' ?_);refine wpAny_bind (wpAny_update' oq ?_);refine wpAny_pure ?_
 have Ae:((hp.push {cls:= .type "dict",data:= .dict #[]}).update x λo=>{cls:=o.cls,dict:=some hp.objs.size,data:=o.data,slots:=o.slots}).get? hp.objs.size=some {cls:= .type "dict",data:= .dict #[]}:=
  (Heap.get?_update_ne _ _ _ _ wN.symm).trans (Heap.get?_push_at rfl rfl)
 have Aj:((hp.push {cls:= .type "dict",data:= .dict #[]}).update x λo=>{cls:=o.cls,dict:=some hp.objs.size,data:=o.data,slots:=o.slots}).Ns hp.objs.size (λ_=>none):=
  ⟨_, #[],_,Ae,rfl,λe he=>absurd he (by simp),λ_=>rfl⟩
 show wpAny _ _ (storeInDict hp.objs.size (.str name tk) name v) _ _ _;unfold storeInDict newKeyGuard;refine wpAny_bind (wpAny_pure (wpAny_bind (wpAny_nsSet1 (Heap.Ns1.of_empty Aj) λh' kI hs=>?_)));obtain ⟨oD,zI,zH,tF,tj,gE⟩:=kI.count (Within.cons name v Within.nil);refine wpAny_bind (wpAny_lookBehind tF (by rw [tj];exact pastItsLine_dict (dR gE (by rw [fP,List.length_nil,sizeLine_eq];omega))) ?_)
 refine wpAny_pure (h h' kI ?_ λb ob z5 hb=>?_)
 ·exact (hs.2 x wN).trans (Heap.get?_update_self _ oq rfl)
 ·exact (hs.2 b (cG (Heap.lt_size hb))).trans ((Heap.get?_update_ne _ _ _ _ z5).trans (Heap.get?_push_of_some _ hb))
end
section
variable {M:Model} {A:Around} {E:Value→Shared→Prop} {h:Heap} {g:Array GenState} {d:Drawn} {t:Nat} {os:OsState}
variable {nm q:Str} {C N:Addr} {bs bm ma:List Value} {cJ:Bool} {sn:List Str} {sub:List Value} {ab:Bool} {col:Option Bool} {dd:Option Addr} {k0 k1 k2 k3 k5:Option Value} {B newId cK:String}
theorem iT(F:ExcBaseFacts B newId cK ma)(td:(Value.ref C::bm).contains (.type B)=true){rest:List Value}{Q:Unit→Shared→Prop}(hC:h.get? C=some (excClassObj nm q C N bs bm cJ sn sub ab col dd k0 k1 k2 k3 k5 newId))
  (hq:Q () ⟨h,g,d,t,os⟩):wpAny M A (checkBuiltinCall newId ⟨.ref C::rest,[]⟩) Q E ⟨h,g,d,t,os⟩:=by
 have Az:=F.noStar;simp only [checkBuiltinCall,F.newKind,F.newSplit,F.newRow]
 repeat (first|refine wpAny_loadPart_at hC ?_| (refine wpAny_isSubtype_exc hC ?_;rw [td]) |refine wpAny_staticBase_exc hC ?_|refine wpAny_madeBy_exc hC ?_|simp only [bne_self_eq_false,Bool.false_eq_true,if_false]|wp_step)
 exact hq
theorem ia(F:ExcBaseFacts B newId cK ma)(jC:(Value.ref C::bm).contains (.type B)=true){e:Addr}{oe:Obj}{rest:List Value}{Q:Unit→Shared→Prop}
  (hC:h.get? C=some (excClassObj nm q C N bs bm cJ sn sub ab col dd k0 k1 k2 k3 k5 newId)) (he:h.get? e=some oe) (nX:oe.cls= .ref C) (hq:Q () ⟨h,g,d,t,os⟩):
  wpAny M A (checkBuiltinCall cK ⟨.ref e::rest,[]⟩) Q E ⟨h,g,d,t,os⟩:=by
 have yE:=F.noStar;simp only [checkBuiltinCall,F.initKind,F.initSplit,F.initRow]
 repeat (first| (with_reducible refine wpAny_loadPart_at he ?_;rw [nX]) |with_reducible refine wpAny_loadPart_at hC ?_| (with_reducible refine wpAny_isSubtype_exc hC ?_;rw [jC]) |wp_step)
 refine wpAny_onRaise ?_
 rw [show ∀(a b:String)(n:Nat),Bind.check ⟨.positional,"*",B, .self,[⟨"args", .varPos,false⟩]⟩ a b n (List.map (λx=>x.fst) ({pos:=Value.ref e::rest}:Args).kw)=pure () from
  λa b n=>check_star_args _ _ _ _ _ _]
 exact wpAny_pure hq
end
section
variable {prog:Program} {w:World} {A:Around} {R:Result→Shared→Prop} {h:Heap} {g:Array GenState} {d:Drawn} {t:Nat} {os:OsState}
variable {nm q:Str} {C N:Addr} {bs bm ma:List Value} {cJ:Bool} {sn:List Str} {sub:List Value} {ab:Bool} {col:Option Bool} {dd:Option Addr} {k0 k1 k2 k3 k5:Option Value} {B newId cK:String}
theorem kB(F:ExcBaseFacts B newId cK ma)(jC:(Value.ref C::bm).contains (.type B)=true)(sY:(Value.ref C::bm).contains (.type "AttributeError")=false)(sZ:(Value.ref C::bm).contains (.type "NameError")=false)
  {rest:List Value} (hC:h.get? C=some (excClassObj nm q C N bs bm cJ sn sub ab col dd k0 k1 k2 k3 k5 newId))
  (hq:R (.ok (.ret (.ref (h.objs.size+1)))) ⟨(h.push {cls:= .type "tuple",data:= .seq rest.toArray}).push (aK C h.objs.size none),g,d,t,os⟩) (kK:rest.length≤sizeLine):
  codeAny (model prog w) A (.builtin newId ⟨.ref C::rest,[]⟩) R ⟨h,g,d,t,os⟩:=by
 have z9:=F.ends;refine codeAny_builtinAt F.entry ?_;unfold Builtin.«BaseException.__new__»;refine PySem.wpAt_bind ?_;show PySem.wpAt _ _ _ (stack>>=_) _ _ _;refine PySem.wpAt_bind (PySem.wpAt_stack λp below=>PySem.wpAt_of_wpAny ?_)
 wp_walk
 refine PySem.wpAt_of_wpAny ?_;rw [F.owner]
 repeat (first|with_reducible refine wpAny_madeHere_exc F.canon hC ?_|with_reducible refine wpAny_loadPart_at hC ?_| (with_reducible refine wpAny_isSubtype_exc hC ?_;first|rw [jC]|rw [sY]|rw [sZ]) |wp_step)
 show R _ _;rw [Heap.size_push];exact hq
theorem fR(F:ExcBaseFacts B newId cK ma)(jC:(Value.ref C::bm).contains (.type B)=true){e t0:Addr}{od:Option Addr}{rest:List Value}(hC:h.get? C=some (excClassObj nm q C N bs bm cJ sn sub ab col dd k0 k1 k2 k3 k5 newId))(he:h.get? e=some (aK C t0 od))
  (hq:∀h' t',h'.get? e=some (aK C t' od)→(∀b o,b≠e→h.get? b=some o→h'.get? b=some o)→R (.ok (.ret .none)) ⟨h',g,d,t,os⟩) (kK:rest.length≤sizeLine):
  codeAny (model prog w) A (.call (.builtin cK) ⟨.ref e::rest,[]⟩) R ⟨h,g,d,t,os⟩:=by
 refine codeAny_call_builtin F.init.plain F.initEntry (ia F jC hC he rfl ?_)
 wp_walk
 have qh:e≠h.objs.size:=cG (Heap.lt_size he);refine hq _ h.objs.size ?_ λb o hb ho=>?_
 ·rw [Heap.get?_update_self _ (Heap.get?_push_of_some _ he) rfl]
  rfl
 ·rw [Heap.get?_update_other _ _ (Ne.symm hb)]
  exact Heap.get?_push_of_some _ ho
theorem fW(F:ExcBaseFacts B newId cK ma)(jC:(Value.ref C::bm).contains (.type B)=true)(sY:(Value.ref C::bm).contains (.type "AttributeError")=false)(sZ:(Value.ref C::bm).contains (.type "NameError")=false)
  {rest:List Value} {init:Value} (hC:h.get? C=some (excClassObj nm q C N bs bm cJ sn sub ab col dd k0 k1 k2 k3 k5 newId)) (call:Looks (model prog w) h (specialOf (.ref C) "__call__") (some (.builtin "type.__call__"))) (typ:Looks (model prog w) h (isInstance (.ref C) (.type "type")) true)
  (hi:Looks (model prog w) h (typeLookup (.ref C) "__init__") (some init)) (hb:∀self,Looks (model prog w) h (bindSpecial init self) (init,[self])) (kK:rest.length≤sizeLine)
  (hq:codeAny (model prog w) (A.under (.builtin "type.__call__" ⟨.ref C::rest,[]⟩)) (.call init ⟨.ref (h.objs.size+1)::rest,[]⟩) (InitBack (h.objs.size+1) R) ⟨(h.push {cls:= .type "tuple",data:= .seq rest.toArray}).push (aK C h.objs.size none),g,d,t,os⟩):
  codeAny (model prog w) A (.call (.ref C) ⟨rest,[]⟩) R ⟨h,g,d,t,os⟩:=by
 refine codeAny_of_tree ?_;show wpAny _ _ (callAny (.ref C) _) _ _ _;refine nd_load hC ?_;show wpAny _ _ (callAny.viaDunder (.ref C) _) _ _ _;unfold callAny.viaDunder;refine wpAny_bind (call.at ?_);dsimp only;rw [tc_bind];refine wpAny_bind (wpAny_pure (wpAny_bind (wpAny_pure ?_)));refine wpAny_pure (a:=Fin.again (.call (.builtin "type.__call__") ⟨.ref C::rest,[]⟩)) (And.intro rfl ?_);refine codeAny_call_builtin_at (Code.quiet_builtin _ (by decide+kernel)) entry_typeCall (check_slot tc_kind tc_split typ (tc_args _ _ _) ?_)
 have hm:Looks (model prog w) h (mroOf (.ref C)) (.ref C::bm):=((Looks.ld (part:=none) hC).andThen .now).andThen .now
 have made:Looks (model prog w) h (Bind.madeBy (.ref C)) (some newId):=by
  intro A Q E s k q;obtain ⟨h2,g2,d2,t2,Dx⟩:=s;exact wpAny_madeBy_exc (k _ _ hC) q
 unfold Builtin.«type.__call__»
 repeat (first|simp only [List.isEmpty_cons,Bool.false_eq_true,if_false]|with_reducible refine wpAny_call ?_|lk)
 refine codeAny_call_builtin_code (Code.quiet_builtin _ F.quiet) (iT F jC hC ?_);refine kB F jC sY sZ hC ?_ kK;have k:∀b o,h.get? b=some o→((h.push {cls:= .type "tuple",data:= .seq rest.toArray}).push (aK C h.objs.size none)).get? b=some o:=λb o e=>Heap.get?_push_of_some _ (Heap.get?_push_of_some _ e);have hx:((h.push {cls:= .type "tuple",data:= .seq rest.toArray}).push (aK C h.objs.size none)).get? (h.objs.size+1)=some (aK C h.objs.size none):=by heap_get
 have t1:Looks (model prog w) ((h.push {cls:= .type "tuple",data:= .seq rest.toArray}).push (aK C h.objs.size none)) (typeOf (.ref (h.objs.size+1))) (.ref C):=(Looks.ld hx).andThen .now
 have s0:Looks (model prog w) h (isSubtype (.ref C) (.ref C)) true:=by
  intro A Q E s k q;obtain ⟨h2,g2,d2,t2,Dx⟩:=s;refine wpAny_isSubtype_exc (k _ _ hC) ?_;rw [show (Value.ref C::bm).contains (.ref C)=true by simp]
  exact q
 have s1:=s0.keeps k;have i1:=hi.keeps k;have b1:=(hb (.ref (h.objs.size+1))).keeps k;unfold isInstance callSpecial? specialOf
 repeat (first|with_reducible refine wpAny_call ?_|lk)
 refine codeAny_mono hq λr s' z=>?_
 rcases r with e| (v|_|_|_)<;>first|exact z|exact z.elim|skip
 obtain ⟨rfl,z⟩:=z;exact wpAny_pure (wpAny_pure z)
end
def cw(C a:Addr)(d:Option Addr):HO:= .ext λh=>∃t,h.get? a=some (aK C t d)
def jq(a:Addr)(fs:List (Str×V)):HO:= .ext λh=>fs.length≤1000∧∃mA,h.Ns1 a mA∧(∀f,eT (fs.lookup f) (mA f))∧PySem.Within mA (fs.map (·.1))
section
variable {P:Program} {w:World} {H:Hp} {h:Heap} {a C:Addr} {d:Option Addr} {fs:List (Str×V)}
theorem jg{t:Addr}(e:h.get? a=some (aK C t d)):aI P w H h a (cw C a d):=⟨⟨t,e⟩,⟨_,e⟩,λh1 h2 ⟨t,p⟩ k=>⟨t,k _ p⟩⟩
theorem pL{mA:Str→Option Value}(hl:fs.length≤1000)(n:h.Ns1 a mA)(r:∀f,eT (fs.lookup f) (mA f))(q:PySem.Within mA (fs.map (·.1))):aI P w H h a (jq a fs):=
 ⟨⟨hl,mA,n,r,q⟩,let ⟨o,_,_,e,_⟩:=n;⟨o,e⟩,λh1 h2 ⟨hl,mA,⟨o,es,ep,e,c⟩,r,q⟩ k=>⟨hl,mA,⟨o,es,ep,k _ e,c⟩,r,q⟩⟩
theorem eh(hok:bT P w H h)(e:H a=some (cw C a d)):∃t,h.get? a=some (aK C t d):=(hok a _ e).1
theorem jh(hok:bT P w H h)(e:H a=some (jq a fs)):fs.length≤1000∧∃mA,h.Ns1 a mA∧(∀f,eT (fs.lookup f) (mA f))∧PySem.Within mA (fs.map (·.1)):=(hok a _ e).1
inductive bN (H:Hp) (C a:Addr):List (Str×V)→Prop where
 |bare (e:H a=some (cw C a none)):bN H C a []
 |with {dx:Addr} {fs:List (Str×V)} (e:H a=some (cw C a (some dx))) (ed:H dx=some (jq dx fs)):bN H C a fs
theorem bN.same{H H':Hp}(x:bN H C a fs)(s:ak H H'):bN H' C a fs:=by
 cases x with
 |bare e=>exact .bare (s _ _ e)
 |«with» e ed=>exact .with (s _ _ e) (s _ _ ed)
theorem bN.inst(hok:bT P w H h)(x:bN H C a fs):∃ox od,PySem.W.InstAt h a ox C od:=by
 cases x with
 |bare e=>obtain ⟨t,e⟩:=eh hok e;exact ⟨_,none,e,rfl,rfl,trivial⟩
 |«with» e ed=>
  obtain ⟨t,e⟩:=eh hok e;obtain ⟨_,mA,⟨o,_,_,e2,_⟩,_⟩:=jh hok ed;exact ⟨_,some o,e,rfl,rfl,e2⟩
end
section
variable {X:Cx} {pins:List (Addr×Obj)} {σ:St} {H:Hp} {s:Shared}
theorem Inv.rb{a dx:Addr}{o1 o2:HO}{h':Heap}{t':Nat}(I:Inv X pins σ H s)(mu:ng (H a))(fE:s.heap.objs.size≤dx)(k:∀b u,b≠a→s.heap.get? b=some u→h'.get? b=some u)(jD:∃u,h'.get? a=some u)
  (xE:aI X.prog X.w (upd (upd H a o1) dx o2) h' a o1) (xF:aI X.prog X.w (upd (upd H a o1) dx o2) h' dx o2):Inv X pins σ (upd (upd H a o1) dx o2) {s with heap:=h',toks:=t'}:=by
 have nd:H dx=none:=I.hok.fresh fE
 obtain ⟨oa,ha⟩:∃o,H a=some o:=by
  cases q:H a with
  |none=>rw [q] at mu;exact mu.elim
  |some o=>exact ⟨o,rfl⟩
 have qy:a≠dx:=aj ha nd;have jS:∀c y,H c=some (.own y)→c≠a:=λc y r z=>by subst z;rw [r] at mu;exact mu
 have lF:∀c xs,H c=some (.tup xs)→c≠a:=λc xs r z=>by subst z;rw [r] at mu;exact mu
 have xG:∀c o u,H c=some (.dG o u)→c≠a:=λc o u r z=>by subst z;rw [r] at mu;exact mu
 have xK:∀c ps,H c=some (.j7 ps)→c≠a:=λc ps r z=>by subst z;rw [r] at mu;exact mu
 have up:∀b u,b≠a→H b=some u→upd (upd H a o1) dx o2 b=some u:=λb u hb e=>by rw [af (aj e nd),af hb];exact e
 refine I.un (h':=h') (t':=t') ⟨λb o e n _ _=>?_,λb o e n _ _=>⟨o.slots,?_⟩,λb o e n _=>?_,λb o e _=>?_,λb xs e=>up b _ (lF b xs e) e,λb o u e=>up b _ (xG b o u e) e,λb ps e=>⟨#[],by rw [up b _ (xK b ps e) e];simp⟩⟩ λb u e=>?_
 ·exact k b o (λz=>by rw [z,ha] at n;cases n) e
 ·exact k b o (λz=>by rw [z,ha] at n;cases n) e
 ·rw [af (λz=>by rw [z] at e;exact absurd (Heap.lt_size e) (Nat.not_lt.mpr fE)),af (λz=>by rw [z,ha] at n;cases n)];exact n
 ·by_cases z:b=a
  ·rw [z];exact jD
  ·exact ⟨o,k b o z e⟩
 ·by_cases z:b=dx
  ·subst z;rw [ae] at e;cases e;exact xF
  ·rw [af z] at e
   by_cases z2:b=a
   ·subst z2;rw [ae] at e;cases e;exact xE
   ·rw [af z2] at e
    refine (I.hok b u e).fA (λc v hc q=>k c v ?_ q) (λc q=>up c _ (jS c b q) q) λc xs q=>up c _ (lF c xs q) q
    rcases hc with y|y
    ·rw [y];exact z2
    ·exact jS c b y
variable {a C:Addr} {fs:List (Str×V)} {f:Str} {v:V} {A:Around} {E:Value→Shared→Prop}
theorem ji{b:Bool}{Q:Value→Shared→Prop}(I:Inv X pins σ H s)(e:bN H C a fs)(c:cZ X.K C)(n:av X.K C f)(l:fs.lookup f=some v)
  (h:∀u s',Inv X pins σ H s'→RelV v u→Q u s'):wpAny (model X.prog X.w) A (getAttr (.ref a) f b) Q E s:=by
 cases e with
 |bare e=>cases l
 | @«with» dx fs e ed=>
  obtain ⟨t,e⟩:=eh I.hok e;obtain ⟨_,mA,hn,r,_⟩:=jh I.hok ed;obtain ⟨u,hu,ru⟩:=eT.some_of (v:=v) (o:=mA f) (by rw [←l];exact r f)
  obtain ⟨od,ho,hl⟩:=eI hn;exact kd I.aW (od:=some od) ⟨e,rfl,rfl,ho⟩ c (PySem.W.findObj_own c.hd n rfl (by rw [hl,hu])) (kF ru) (h u _ (I.tok _) ru)
def nv(H:Hp)(C a:Addr)(f:Str)(y:V)(fs:List (Str×V))(Q:Hp→Prop):Prop:=
 (fs= []∧H a=some (cw C a none)∧∀dx,H dx=none→Q (upd (upd H a (cw C a (some dx))) dx (jq dx [(f,y)])))∨
 (∃dx,H a=some (cw C a (some dx))∧H dx=some (jq dx fs)∧fs.length<1000∧Q (upd H dx (jq dx (cp f y fs))))
theorem jj{y:V}{u:Value}{Q:Unit→Shared→Prop}{R:Hp→Prop}(I:Inv X pins σ H s)(c:cZ X.K C)(n:av X.K C f)(ry:RelV y u)(p:nv H C a f y fs R)
  (h:∀H' s',Inv X pins σ H' s'→R H'→Q () s'):wpAny (model X.prog X.w) A (setAttr (.ref a) f u) Q E s:=by
 rcases p with ⟨rfl,e,q⟩ | ⟨dx,e,ed,hl,q⟩
 ·obtain ⟨t,et⟩:=eh I.hok e
  refine uJ I.aW c et n.pG λh' hn hx k=>?_;refine h _ _ (I.rb (by rw [e];exact True.intro) (bx _) k ⟨_,hx⟩ (jg hx) ?_) (q s.heap.objs.size I.fresh)
  refine pL (by simp) hn (λg=>?_) (λg hg=>?_)
  ·by_cases z:g=f
   ·rw [if_pos z,z];simp only [List.lookup,beq_self_eq_true];exact ry
   ·rw [if_neg z]
    have hb:(g==f)=false:=beq_eq_false_iff_ne.mpr z;simp only [List.lookup,hb];exact True.intro
  ·by_cases z:g=f
   ·rw [z];simp
   ·rw [if_neg z] at hg;exact absurd rfl hg
 ·obtain ⟨t,et⟩:=eh I.hok e
  obtain ⟨_,mA,hn,r,wi⟩:=jh I.hok ed
  have ne:dx≠a:=by
   rintro rfl;obtain ⟨o,es,ep,eo,hd,_⟩:=hn;rw [et] at eo;cases eo;cases hd
  have hz:(fs.map (·.1)).length≤sizeLine:=by rw [dQ,sizeLine_eq];omega
  refine uK I.aW c et hn ne n.pG wi hz λh' kI sb=>h _ _ (I.write (x:=dx) (e:=dx) (by rw [ed];exact True.intro) (.inl rfl) (λb q hb z=>(sb.2 b hb).trans z) (let ⟨o,_,_,e',_⟩:=kI;⟨o,e'⟩) ?_) q
  refine pL (by have:=fe f y fs;omega) kI (λg=>?_) (λg hg=>?_)
  ·rw [fg]
   by_cases q:g=f
   ·rw [if_pos q,if_pos q];exact ry
   ·rw [if_neg q,if_neg q];exact r g
  ·by_cases q:g=f
   ·rw [q];exact (eH f y fs).1
   ·refine (eH f y fs).2 g (wi g λz=>hg ?_)
    show (if g=f then some u else mA g)=none;rw [if_neg q];exact z
end
def ur(K:PySem.W.Frag)(ta:TE)(f:Str):TE:=λσ H Q=>ta σ H λx H1=>∃a C fs v,x= .ref a∧bN H1 C a fs∧cZ K C∧av K C f∧fs.lookup f=some v∧Q v H1
def ua(K:PySem.W.Frag)(ta tv:TE)(f:Str):TS:=λD σ H=>tv σ H λy H1=>ta σ H1 λx H2=>∃a C fs,x= .ref a∧cZ K C∧av K C f∧nv H2 C a f y fs λH3=>D.nx σ H3
section
variable {X:Cx} {o e value:Expr} {f:Str} {pos pos' yt:Pos} {ta tv:TE}
theorem bo(he:PE X e ta)(hb:attributeBase e f X.env (eval e X.env)=eval e X.env):PE X (.Attribute e f pos) (ur X.K ta f):=by
 intro pins s σ H Q I h;refine nz hb (thn (he pins s σ H _ I h) λu s1 ⟨x,H1,I1,rx,a,C,fs,v,ex,ea,c,n,l,q⟩=>?_);subst ex;obtain rfl:u=Value.ref a:=rx;exact ji I1 ea c n l λu' s2 I2 ru=>⟨v,H1,I2,ru,q⟩
theorem br(ha:PE X o ta)(hv:PE X value tv)(hs:swapsWith value (some (.Attribute o f pos')) pos.line X.env=pure false):PS X (.Assign [.Attribute o f pos'] value pos) (ua X.K ta tv f):=by
 intro pins s σ H D I h;refine plainObj_wpAny_Assign_Attribute (thn (hv pins s σ H _ I h) λu s1 ⟨y,H1,I1,ry,q⟩=>thn (ha pins s1 σ H1 _ I1 q) λov s2 ⟨x,H2,I2,rx,a,C,fs,ex,c,n,p⟩=>?_) hs;subst ex;obtain rfl:ov=Value.ref a:=rx;exact jj I2 c n ry p λH3 s3 I3 q=>⟨σ,_,I3,q⟩
inductive mZ:V→Value→Prop where
 |own (D:Addr):mZ (.ref D) (.ref D)
 |blt (n:String):mZ (.ty n) (.type n)
theorem ar(hn:PySem.W.specialIn X.K (.builtin "object.__class__") "__get__"=some (some (.builtin "getset_descriptor.__get__")))(htk:PySem.W.takesIn X.K (.builtin "object.__class__")=some true):
  CallR X (.builtin "isinstance") (λxs H Q=>∃(a C:Addr)(fs:List (Str×V))(c:V)(cu:Value)(b:Bool),xs= [.ref a,c]∧bN H C a fs∧cZ X.K C∧mZ c cu∧PySem.W.kitOne X.K (.ref C) cu=some b∧Q (.bl b) H):=by
 intro pins s σ H xs us Q I rv h;obtain ⟨a,C,fs,c,cu,b,rfl,xa,xc,hc,e,q⟩:=h;obtain ⟨u1,u2,rfl,r1,r2⟩:=rv.two;cases r1;obtain ⟨ox,od,J⟩:=xa.inst I.hok
 have hu:u2=cu:=by
  cases hc with
  |own D=>exact r2
  |blt n=>exact r2
 subst hu;exact PySem.W.kia_one (mx xc hn htk) I.aW J e (λz=>nomatch z) λtk=>⟨.bl b,H,I.tok _,rfl,q⟩
end
structure nr (K:PySem.W.Frag) (C:Addr):Prop where
 obj:∃nm q N bs bm cJ sn sub ab col dd k0 k1 k2 k3 k5,K.lookup C=some (excClassObj nm q C N bs bm cJ sn sub ab col dd k0 k1 k2 k3 k5 "ValueError.__new__")∧(Value.ref C::bm).contains (.type "ValueError")=true∧
  (Value.ref C::bm).contains (.type "AttributeError")=false∧(Value.ref C::bm).contains (.type "NameError")=false
structure bI (K:PySem.W.Frag) (C:Addr) (init:Value):Prop extends nr K C where
 call:PySem.W.specialIn K (.ref C) "__call__"=some (some (.builtin "type.__call__"))
 typ:PySem.W.instIn K (.ref C) (.type "type")=some true
 ini:PySem.W.findIn K (.ref C) "__init__"=some (some init)
 kp:PySem.W.keepIn K (.ref C)=true
theorem qY{H:Hp}{a:Addr}{o:HO}(e:H a=some o):upd H a o=H:=by
 funext b
 by_cases h:b=a
 ·rw [h,ae,e]
 ·rw [af h]
def qU(C:Addr)(sp:Sp)(E:XK)(t:TA):TE:=λσ H Q=>t σ H λvs H1=>∀e,H1 e=none→sp (.ref e::vs) (upd H1 e (cw C e none)) (λv H2=>v= .aC∧Q (.ref e) H2) E
def pE(C:Addr):TE:=λσ H Q=>∀e,H e=none→Q (.ref e) (upd H e (cw C e none))
def qT(K:PySem.W.Frag)(t:TA):TE:=λσ H Q=>t σ H λvs H1=>∃a C d y,vs= [.ref a,y]∧H1 a=some (cw C a d)∧nr K C∧Q .aC H1
section
variable {X:Cx} {CX:eS} {k:Nat} {f C:Addr} {fd:FuncData} {ps:List Str} {sp:Sp} {E:XK} {x m:Str} {p pos apos:Pos} {e o:Expr} {es:List Expr} {ta:TE} {t:TA}
theorem k9{pins:List (Addr×Obj)}{σ:St}{H:Hp}{s:Shared}{Q:VK}{us:List Value}{vs:List V}(M:bI X.K C (.ref f))(hf:PySem.W.isFn X.K (.ref f)=true)(F:FnOk X.prog X.w X.K X.mg X.base CX k f fd ps sp)(hr:a8 (k+1) X.A)(hb:Binds X.K fd ps [])
  (wI:ps.length≤1000) (hx:Passes CX X E) (I:Inv X pins σ H s) (r:Vals vs us)
  (h:∀e,H e=none→sp (.ref e::vs) (upd H e (cw C e none)) (λv H2=>v= .aC∧Q (.ref e) H2) E):
  wpAny (model X.prog X.w) X.A (call (.ref C) us) (EP X pins σ Q) X.xe s:=by
 obtain ⟨nm,q,N,bs,bm,cJ,sn,sub,ab,col,dd,k0,k1,k2,k3,k5,hC,cB,cA,cN⟩:=M.obj;have hq:=h (s.heap.objs.size+1) (I.hok.fresh (Nat.le_succ _))
 have tO:((s.heap.push {cls:= .type "tuple",data:= .seq us.toArray}).push (aK C s.heap.objs.size none)).get? (s.heap.objs.size+1)=some (aK C s.heap.objs.size none):=by
  have:=Heap.get?_push_size (s.heap.push {cls:= .type "tuple",data:= .seq us.toArray}) (o:=aK C s.heap.objs.size none) rfl
  rwa [Heap.size_push] at this
 have I2:Inv X pins σ (upd H (s.heap.objs.size+1) (cw C (s.heap.objs.size+1) none)) {s with heap:=(s.heap.push {cls:= .type "tuple",data:= .seq us.toArray}).push (aK C s.heap.objs.size none)}:=
  I.laid (t':=s.toks) (λb u q=>Heap.get?_push_of_some _ (Heap.get?_push_of_some _ q)) (Nat.le_succ _) (jg tO)
 have r2:Vals (V.ref (s.heap.objs.size+1)::vs) (Value.ref (s.heap.objs.size+1)::us):= .cons rfl r
 have hl:((Value.ref (s.heap.objs.size+1)::us)++ []).length=ps.length:=by
  have e:=r2.length;rw [F.len _ _ _ _ hq] at e;rw [List.append_nil];exact e.symm
 have hlen:us.length≤sizeLine:=by
  rw [List.append_nil,fP] at hl;exact Nat.le_of_lt (bJ (by omega))
 have qd:=hb _ (Value.ref (s.heap.objs.size+1)::us) I2.aW hl;rw [List.append_nil] at qd;obtain ⟨hh,g,d,tk,os⟩:=s
 refine wpAny_call (fW (init:= .ref f) PySem.F.excBase_ValueError cB cA cN (I.aW _ _ hC) (PySem.W.looks_specialIn I.aW M.call) (PySem.W.looks_instIn I.aW M.typ) (PySem.W.looks_findIn I.aW M.ini) (λself=>PySem.W.bind_fn I.aW self (beq_iff_eq.mp hf)) hlen
  (codeAny_mono (F.run _ X.stack _ _ ⟨Value.ref (hh.objs.size+1)::us,[]⟩ (Value.ref (hh.objs.size+1)::us) _ _ E (hr.make C us []) (I2.rA.make C us []) qd r2 hq) λr s' jE=>?_))
 cases r with
 |error e=>exact hx pins σ _ _ e s' I2 jE
 |ok fl=>
  cases fl with
  |ret u=>
   obtain ⟨v,H',I3,rv,ev,q3⟩:=I2.after jE;subst ev;exact ⟨rv,⟨V.ref (hh.objs.size+1),H',I3,rfl,q3⟩⟩
  |next=>exact False.elim jE
  |brk=>exact False.elim jE
  |cont=>exact False.elim jE
theorem bB(M:bI X.K C (.ref f))(hf:PySem.W.isFn X.K (.ref f)=true)(F:FnOk X.prog X.w X.K X.mg X.base CX k f fd ps sp)(hr:a8 (k+1) X.A)(hg:Gl X x)(hm:X.mg x=some (.ref C))(hb:Binds X.K fd ps [])(wI:ps.length≤1000)(hx:Passes CX X E)
  (ha:PA X (e::es) t) (eG:(x==("__debug__":Str))=false:=by decide) (he:starEach (e::es) X.env=(false,eval e X.env)::starEach es X.env:=by rfl) (dy:(backTo pos (starEach es X.env)).any (·.1)=false:=by rfl):
  PE X (.Call (.Name x p) (e::es) [] pos) (qU C sp E t):=by
 intro pins s σ H Q I h;refine wpAny_Call_Name_kw (dH I hg hm ?_ eG);refine PySem.W.callWith_K (h₀:=X.base) I.ok.mod.kin M.kp (thn (ha pos pins s σ H _ I h) λus s1 ⟨vs,H1,I1,r,q⟩=>⟨I1.aW,?_⟩) he dy;exact k9 M hf F hr hb wI hx I1 r q
theorem jY{pins:List (Addr×Obj)}{σ:St}{H:Hp}{s:Shared}{Q:VK}(M:bI X.K C (.builtin "ValueError.__init__"))(I:Inv X pins σ H s)(h:∀e,H e=none→Q (.ref e) (upd H e (cw C e none))):
  wpAny (model X.prog X.w) X.A (call (.ref C) []) (EP X pins σ Q) X.xe s:=by
 obtain ⟨nm,q,N,bs,bm,cJ,sn,sub,ab,col,dd,k0,k1,k2,k3,k5,hC,cB,cA,cN⟩:=M.obj;have hq:=h (s.heap.objs.size+1) (I.hok.fresh (Nat.le_succ _))
 have tO:((s.heap.push {cls:= .type "tuple",data:= .seq ([]:List Value).toArray}).push (aK C s.heap.objs.size none)).get? (s.heap.objs.size+1)=some (aK C s.heap.objs.size none):=by
  have:=Heap.get?_push_size (s.heap.push {cls:= .type "tuple",data:= .seq ([]:List Value).toArray}) (o:=aK C s.heap.objs.size none) rfl
  rwa [Heap.size_push] at this
 obtain ⟨hh,g,d,tk,os⟩:=s
 refine wpAny_call (fW (init:= .builtin "ValueError.__init__") PySem.F.excBase_ValueError cB cA cN (I.aW _ _ hC) (PySem.W.looks_specialIn I.aW M.call) (PySem.W.looks_instIn I.aW M.typ) (PySem.W.looks_findIn I.aW M.ini)
  (λself=>PySem.W.Looks.of_pure (PySem.F.excBase_ValueError.init.bind self)) (by decide) ?_)
 refine fR PySem.F.excBase_ValueError cB (Heap.get?_push_of_some _ (Heap.get?_push_of_some _ (I.aW _ _ hC))) tO (λh' t' qj kk=>?_) (by decide)
 refine ⟨rfl,⟨V.ref (hh.objs.size+1),_,I.laid (t':=tk) (λb u q=>kk b u ?_ (Heap.get?_push_of_some _ (Heap.get?_push_of_some _ q))) (Nat.le_succ _) (jg qj),rfl,hq⟩⟩;exact cG (Nat.lt_succ_of_lt (Heap.lt_size q))
theorem cD(M:bI X.K C (.builtin "ValueError.__init__"))(hg:Gl X x)(hm:X.mg x=some (.ref C))(eG:(x==("__debug__":Str))=false:=by decide):PE X (.Call (.Name x p) [] [] pos) (pE C):=by
 intro pins s σ H Q I h;refine wpAny_Call_Name_kw (dH I hg hm ?_ eG);exact PySem.W.callWith_K0 I.aW M.kp (jY M I h)
theorem bA{C0:Addr}{pl:Sem Bool}(hg:Gl X x)(hm:X.mg x=some (.ref C0))(sg:PySem.W.specialIn X.K (.ref C0) "__getattribute__"=some (some (.builtin "type.__getattribute__")))(rd:PySem.W.readsIn X.K C0 (.type "type")=true)
  (fc:PySem.W.findCls X.K (.ref C0) (.type "type") "__init__"=some (.val (.builtin "ValueError.__init__"))) (ha:PA X (e::es) t) (eG:(x==("__debug__":Str))=false:=by decide)
  (he:starEach (e::es) X.env=(false,eval e X.env)::starEach es X.env:=by rfl) (dy:(backTo pos (starEach es X.env)).any (·.1)=false:=by rfl)
  (ht:eval (.Call (.Attribute (.Name x p) "__init__" apos) (e::es) [] pos) X.env=(do
   let ov ←eval (.Name x p) X.env
   standAt apos.atName
   let (f,first) ←holding [ov] (getMethod ov "__init__" pl)
   callWith pos f first (backTo pos (starEach (e::es) X.env)) (backToKw pos (keywordEach [] X.env))):=by rfl):
  PE X (.Call (.Attribute (.Name x p) "__init__" apos) (e::es) [] pos) (qT X.K t):=by
 intro pins s σ H Q I h;refine PySem.W.methodCall_KW (pl:=pl) (dH I hg hm ?_ eG) ht;refine PySem.W.method_cls I.aW sg (PySem.W.cls_value I.aW rd fc (by decide+kernel) ?_)
 refine PyProof.Rows.callWith_builtin1 (thn (ha pos pins _ σ H _ (I.tok _) h) λus s1 ⟨vs,H1,I1,r1,a,C,d,y,ev,ea,xo,q1⟩=>?_) he dy;subst ev;obtain ⟨u1,u2,rfl,ra,ry⟩:=r1.two;cases ra;obtain ⟨nm,q,N,bs,bm,cJ,sn,sub,ab,col,dd,k0,k1,k2,k3,k5,hC,cB,cA,cN⟩:=xo.obj;obtain ⟨t0,et⟩:=eh I1.hok ea;obtain ⟨hh,g,dr,tk,os⟩:=s1;refine wpAny_call (fR PySem.F.excBase_ValueError cB (I1.aW _ _ hC) et (λh' t' qj kk=>?_) (by show 1≤sizeLine;decide))
 have I2:=I1.write (x:=a) (e:=a) (o:=cw C a d) (t':=tk) (by rw [ea];exact True.intro) (.inl rfl) (λb u hb q=>kk b u hb q) ⟨_,qj⟩ (jg qj)
 rw [qY ea] at I2;exact ⟨.aC,H1,I2,rfl,q1⟩
end
section
variable {X:Cx} {pins:List (Addr×Obj)} {σ:St} {H:Hp} {s:Shared} {A:Around} {E:Value→Shared→Prop} {Q:Value→Shared→Prop} {b:Bool}
theorem ka:∀{ns:List String}{us:List Value},Vals (ns.map V.ty) us→us=ns.map Value.type
 | [],_, .nil=>rfl
 |_::_,_, .cons r t=>by rw [show _=_ from r,ka t];rfl
theorem jJ{x:V}{u t:Value}{tp:Addr}{ns:List String}(I:Inv X pins σ H s)(rx:RelV x u)(ty:bD X.K H x t)(ht:H tp=some (.tup (ns.map V.ty)))(e:PySem.W.kitAny X.K t (ns.map Value.type)=some b)(h:∀tk,Q (.bool b) {s with toks:=tk}):
  wpAny (model X.prog X.w) A (call (.builtin "isinstance") [u, .ref tp]) Q E s:=by
 obtain ⟨_,its,rv,o,e1,e2,n,e3⟩:=(show aI X.prog X.w H s.heap tp (.tup (ns.map V.ty)) from I.hok tp _ ht);have ei:=ka rv;subst ei;obtain ⟨oc,od,da,sl⟩:=o;dsimp only at e2 e3;subst e2 e3;cases ty with
 |aC=>cases (show u=Value.none from rx);exact PySem.W.kia_tup PySem.W.kitx_none I.aW True.intro e1 e (λz=>nomatch z) h
 |bl y=>cases (show u=Value.bool y from rx);exact PySem.W.kia_tup PySem.W.kitx_bool I.aW True.intro e1 e (λz=>nomatch z) h
 |int i=>obtain ⟨t,q⟩:=(show ∃t,u=Value.int i t from rx);cases q;exact PySem.W.kia_tup PySem.W.kitx_int I.aW True.intro e1 e (λz=>nomatch z) h
 |str y=>obtain ⟨t,q⟩:=(show ∃t,u=Value.str y t from rx);cases q;exact PySem.W.kia_tup PySem.W.kitx_str I.aW True.intro e1 e (λz=>nomatch z) h
 |jz y=>obtain ⟨t,q⟩:=(show ∃t,u=Value.float y t from rx);cases q;exact PySem.W.kia_tup PySem.W.kitx_float I.aW True.intro e1 e (λz=>nomatch z) h
 | @lst a xs ea=>
  cases (show u=Value.ref a from rx);obtain ⟨_,_,n,_,h1⟩:=(show aI X.prog X.w H s.heap a (.lst xs) from I.hok a _ ea);exact PySem.W.kia_tup PySem.W.kitx_list I.aW ⟨_,h1,rfl⟩ e1 e (λz=>nomatch z) h
 | @dG a ob xs ea=>
  cases (show u=Value.ref a from rx);obtain ⟨_,_,_,n,_,h1⟩:=(show aI X.prog X.w H s.heap a (.dG ob (.lst xs)) from I.hok a _ ea);exact PySem.W.kia_tup PySem.W.kitx_list I.aW ⟨_,h1,rfl⟩ e1 e (λz=>nomatch z) h
 | @tup a xs ea=>
  cases (show u=Value.ref a from rx);obtain ⟨_,_,_,p⟩:=(show aI X.prog X.w H s.heap a (.tup xs) from I.hok a _ ea);obtain ⟨o,h1,h2,_⟩:=p;exact PySem.W.kia_tup PySem.W.kitx_tuple I.aW ⟨o,h1,h2⟩ e1 e (λz=>nomatch z) h
 | @dK a aZ ea=>
  cases (show u=Value.ref a from rx);obtain ⟨_,_,vs,_,p⟩:=(show aI X.prog X.w H s.heap a (.dK aZ) from I.hok a _ ea);obtain ⟨o,es,ep,h1,h2,_⟩:=p;exact PySem.W.kia_tup PySem.W.kitx_dict I.aW ⟨o,h1,h2.1⟩ e1 e (λz=>nomatch z) h
 | @dT a aZ ea=>
  cases (show u=Value.ref a from rx);obtain ⟨_,_,xs,_,o,es,ep,h1,h2,_⟩:=(show aI X.prog X.w H s.heap a (.dT aZ) from I.hok a _ ea);exact PySem.W.kia_tup PySem.W.kitx_dict I.aW ⟨o,h1,h2.1⟩ e1 e (λz=>nomatch z) h
 | @ins a C dx fs ea cl ha hn htk hm=>
  cases (show u=Value.ref a from rx);obtain ⟨mA,O,_⟩:=jG I.hok ea;obtain ⟨od,J,_⟩:=O.look;exact PySem.W.kia_tup (PySem.W.kitx_own (cl.get _) cl.hd ha hn htk hm) I.aW J e1 e (λz=>nomatch z) h
theorem hV:CallR X (.builtin "isinstance") (λxs H Q=>∃(x:V)(tp:Addr)(ns:List String)(t:Value)(b:Bool),xs= [x, .ref tp]∧bD X.K H x t∧H tp=some (.tup (ns.map V.ty))∧PySem.W.kitAny X.K t (ns.map Value.type)=some b∧Q (.bl b) H):=by
 intro pins s σ H xs us Q I rv h;obtain ⟨x,tp,ns,t,b,rfl,ty,ht,e,q⟩:=h;obtain ⟨u1,u2,rfl,r1,r2⟩:=rv.two;cases r2;exact jJ I r1 ty ht e λtk=>⟨.bl b,H,I.tok _,rfl,q⟩
end
theorem aR.of{X:Cx}{scope:Scope}(sc:Scope)(e:X.env.scope=sc)(k:scope.kind= .function)(a:∀x∈scope.names,x.2= .local→scope.names.lookup x.1=some .local)(b:∀x∈scope.names,x.2≠ .cell)
  (c:∀x∈scope.names,x.2= .free→sc.names.lookup x.1=some .cell∨sc.names.lookup x.1=some .free):aR X scope:=⟨k,a,b,λx hx hf=>by rw [←e] at c;exact c x hx hf⟩
theorem iy{K:PySem.W.Frag}{a:Addr}{xs:List V}{g:TG}{tb:TS}{D:Ends}{σ:St}{H:Hp}(Pv:Nat→St→Hp→Prop)(h0:Pv 0 σ H)(hl:∀i σ H,i≤xs.length→Pv i σ H→ay K H a xs)
  (hs:∀(i:Nat) x t σ H,xs[i]? =some x→H t=none→Pv i σ H→g (.ref t) σ (upd H t (.tup [.int (i:Int),x])) λdt H2=>tb {D with nx:=Pv (i+1),ct:=Pv (i+1),bk:=D.nx} dt H2) (hd:∀σ H,Pv xs.length σ H→D.nx σ H):
  ∃W:Nat→Nat→St→Hp→Prop,(∃m,W 0 m σ H)∧∀i m σ H,W i m σ H→
   ((m8 K a).stop i H∧D.nx σ H)∨((m8 K a).go i H∧∃N:St→Hp→Prop,(∀aA H',N aA H'→∃m',m'<m∧W (i+1) m' aA H')∧∀x H',(m8 K a).yld i H x H'→g x σ H' λdt H2=>tb {D with nx:=N,ct:=N,bk:=D.nx} dt H2):=by
 refine ⟨λi m σ H=>m=xs.length-i∧i≤xs.length∧Pv i σ H,⟨xs.length,by simp,Nat.zero_le _,h0⟩,?_⟩
 rintro i m σ H ⟨rfl,hi,p⟩;have q:=hl i σ H hi p
 by_cases ek:i<xs.length
 ·refine .inr ⟨⟨xs,xs[i],q,by simp [ek]⟩,Pv (i+1),λaA H' p'=>⟨xs.length-(i+1),by omega,rfl,ek,p'⟩,λx H' y=>?_⟩
  obtain ⟨t,v,rfl,ht,rfl,hv⟩:=y;exact hs i v t σ H (hv xs q) ht p
 ·have e:i=xs.length:=by omega
  subst e;exact .inl ⟨⟨xs,q,bx _⟩,hd σ H p⟩
theorem iA{X:Cx}{K:PySem.W.Frag}(e:X.K=K:=by rfl):iP X (rY K):=by rw [←e];exact aB
theorem ou{X:Cx}{K:PySem.W.Frag}(e:X.K=K:=by rfl):iP X (rZ K):=by rw [←e];exact bW
structure cW (K:PySem.W.Frag) (mg:Str→Option Value) (x:Str) (st:Stmt) (ps:List Str) where
 f:Addr
 fd:FuncData
 F:df K x x st f fd
 b:Binds K fd ps []
 m:mg x=some (.ref f)
theorem aq{H:Hp}{p:Addr}(h:H p=none)(o:HO):ak H (upd H p o):=λb u q=>by rw [af (aj q h)];exact q
theorem small{n:Nat}(h:n≤1000):n≤sizeLine:=Nat.le_of_lt (bJ h)
abbrev rE(C t:Addr)(tb:Value)(d:Option Addr):Obj:={cls:= .ref C,dict:=d,data:= .fields #[.ref t,tb, .none, .none, .bool false, .none]}
def uO(C a:Addr)(d:Option Addr):HO:= .ext λh=>∃t tb,h.get? a=some (rE C t tb d)
section
variable {P:Program} {w:World} {H:Hp} {h:Heap} {a C:Addr} {d:Option Addr}
end
def uW(h:Heap)(T:Addr):Prop:=∃o ts,h.get? T=some o∧o.data= .fields ts∧ts[3]? =some .none
section
variable {M:Model} {A:Around} {E:Value→Shared→Prop} {s:Shared}
end
def uX(X:Cx)(H:Hp)(h:Heap)(tb:Value):Prop:=tb= .none∨∃T,tb= .ref T∧X.s₀.heap.objs.size≤T∧T≠X.env.locals∧(∀x c,X.env.cells.lookup x=some c→c≠T)∧(∀p∈X.pn,p.1≠T)∧H T=none∧uW h T
def uP(X:Cx)(H:Hp)(s:Shared)(a:Addr):Prop:=∃C t tb d,H a=some (uO C a d)∧s.heap.get? a=some (rE C t tb d)∧uX X H s.heap tb
section
variable {X:Cx} {pins:List (Addr×Obj)} {σ:St} {H H':Hp} {s s':Shared} {a:Addr}
end
def uZ(X:Cx)(σ:St)(H:Hp)(a:Addr):Prop:=∀s,Inv X [] σ H s→uP X H s a→X.xe (.ref a) s
end L2
namespace PySem.SetTable
def uU(xs:Array Nat):Prop:=∀i j (hj:j<xs.size),i<j→xs[i]! <xs[j]!
def yS(mask:Nat)(p:Probe):Probe:=
 if p.more>0 then {p with j:=p.j+1,more:=p.more-1} else
 let (i,perturb):=leap mask p.i p.perturb
 {p with j:=i,more:=runEnd mask i-i,i,perturb}
def D3(mask:Nat)(h:Int):Probe:={j:=bits h%(mask+1),more:=runEnd mask (bits h%(mask+1))-bits h%(mask+1),i:=bits h%(mask+1),perturb:=bits h,dummy:=none}
def yi(mask:Nat)(h:Int):Nat→Probe
 |0=>D3 mask h
 |k+1=>yS mask (yi mask h k)
def yc(mask:Nat)(h:Int)(k:Nat):Nat:=(yi mask h k).j
def yF(mask:Nat):Prop:=mask=7∨mask=31∨mask=127∨mask=511
structure yR (t:SetTable) (hs:List Int):Prop where
 few:yF t.mask
 dum:t.dummies= #[]
 rise:uU t.place
 size:t.place.size=hs.length
 le:∀(i j:Nat),t.place[i]? =some j→j≤t.mask
 room:t.place.size≤t.mask
 path:∀(i:Nat)(h:Int),hs[i]? =some h→∃k,t.place[i]? =some (yc t.mask h k)∧∀k',k'<k→∃i':Nat,t.place[i']? =some (yc t.mask h k')
end PySem.SetTable
namespace PySem
open SetTable PyProof.Rows
structure rj (bt:Bool) (o:Obj) (es:Array (Int×Value)) (ep:Nat) (t:SetTable):Prop where
 ex:o.ExactSet
 dat:o.data= .set es ep t
 tok:yR t (es.toList.map (·.1))
 pl:t.plain=true
 ld:t.led= !bt
 few:5*es.size<3*t.mask
end PySem
namespace L2
open PySem PySem.Spec PyProof.Rows
inductive FV where
 |int (i:Int) |bl (b:Bool)
inductive XD where
 |rX (b:Bool) (ps:List (Int×Int)) |rW (ks:List (Int×Int)) (vs:List FV)
inductive D where
 |aC|bl (b:Bool) |int (i:Int) |str (x:Str) |lst (l:List D) |tup (l:List D) |ik (ns:List Int) |rng (lo hi:Int) |obj (a:Addr) |mV (w:List (List Nat)) |set (b:Bool) (l:List Int) |x (k:XD) |err (C:Addr) (ks:List Str) (l:List D)
structure DC where
 K:PySem.W.Frag
 C:Addr
def iD(n:Nat):D:= .int n
def xZ(r:List Nat):D:= .lst (r.map iD)
def yy(w:List (List Nat)):D:= .lst (w.map xZ)
def uQ(es:Array (Int×Value))(ns:List Int):Prop:=(∀e∈es.toList,∃k t,e=(hashInt k,Value.int k t))∧ns.Nodup∧∃ms,IntsAre (es.toList.map (·.2)) ms∧ms.Perm ns
def rk(b:Bool)(a:Addr)(ns:List Int)(h:Heap):Prop:=∃o es ep t,h.get? a=some o∧rj b o es ep t∧uQ es ns
def mI(p:Int×Int):Int:=reduceHash (Builtin.Tuple.tupleHashOf [hashInt p.1,hashInt p.2])
inductive jm (H:Hp):List (Int×Addr)→List (Int×Int)→Prop
 |nil:jm H [] []
 |cons {a:Addr} {p:Int×Int} {es:List (Int×Addr)} {ps:List (Int×Int)}:H a=some (.tup [.int p.1, .int p.2])→jm H es ps→jm H ((mI p,a)::es) (p::ps)
theorem jm.mono{H H':Hp}(s:ak H H'):∀{es:List (Int×Addr)}{ps:List (Int×Int)},jm H es ps→jm H' es ps
 |_,_, .nil=> .nil
 |_,_, .cons h t=> .cons (s _ _ h) (t.mono s)
def su(b:Bool)(a:Addr)(es:List (Int×Addr))(h:Heap):Prop:=∃o eA ep t,h.get? a=some o∧rj b o eA ep t∧eA.toList.Perm (es.map λe=>(e.1,Value.ref e.2))
def yG:FV→Value→Prop
 | .int i,v=>∃t,v= .int i t
 | .bl b,v=>v= .bool b
inductive pP:List DictEntry→List (Int×Addr)→List FV→Prop
 |nil:pP [] [] []
 |cons {e:DictEntry} {l:List DictEntry} {h:Int} {a:Addr} {v:FV} {es:List (Int×Addr)} {vs:List FV}:e.hash=h→e.key= .ref a→yG v e.val→pP l es vs→pP (e::l) ((h,a)::es) (v::vs)
def sq(a:Addr)(es:List (Int×Addr))(vs:List FV)(h:Heap):Prop:=(a==sysModules)=false∧∃o eA ep,h.get? a=some o∧o.ExactDict∧o.data= .dict eA ep∧pP eA.toList es vs
def nu(H:Hp)(a:Addr)(φ:Heap→Prop):XD→Prop
 | .rX b ps=>ps.Nodup∧∃es,φ=su b a es∧jm H es ps
 | .rW ks vs=>ks.Nodup∧∃es,φ=sq a es vs∧jm H es ks
theorem nu.mono{H H':Hp}(s:ak H H'){a:Addr}{φ:Heap→Prop}:∀{k:XD},nu H a φ k→nu H' a φ k
 | .rX _ _,⟨n,es,e,p⟩=>⟨n,es,e,p.mono s⟩
 | .rW _ _,⟨n,es,e,p⟩=>⟨n,es,e,p.mono s⟩
def pQ(H:Hp)(od:Option Addr)(ks:List Str)(xs:List V):Prop:=(od=none∧ks= []∧xs= [])∨∃dx,od=some dx∧H dx=some (jq dx (ks.zip xs))∧ks.length=xs.length
theorem pQ.mono{H H':Hp}(s:ak H H'){od:Option Addr}{ks:List Str}{xs:List V}(h:pQ H od ks xs):pQ H' od ks xs:=h.imp id λ⟨dx,a,b,c⟩=>⟨dx,a,s _ _ b,c⟩
mutual
inductive Dv (Z:DC) (H:Hp):V→D→Prop
 |aC:Dv Z H .aC .aC
 |bl (b:Bool):Dv Z H (.bl b) (.bl b)
 |int (i:Int):Dv Z H (.int i) (.int i)
 |str (x:Str) (h:PyData.strOk x=true):Dv Z H (.str x) (.str x)
 |lst {a:Addr} {xs:List V} {ds:List D}:H a=some (.lst xs)→ao Z H xs ds→Dv Z H (.ref a) (.lst ds)
 |tup {a:Addr} {xs:List V} {ds:List D}:H a=some (.tup xs)→ao Z H xs ds→Dv Z H (.ref a) (.tup ds)
 |obj (a:Addr):Dv Z H (.ref a) (.obj a)
 |rng {a:Addr} {lo hi:Int}:H a=some (.rng lo hi)→Dv Z H (.ref a) (.rng lo hi)
 |ik {a:Addr} {ns:List Int}:ay Z.K H a (ns.map V.int)→ns.length≤63→Dv Z H (.ref a) (.ik ns)
 |mV {p dx R:Addr} {w:List (List Nat)}:H p=some (.ins Z.C dx [("rows", .ref R)])→Dv Z H (.ref R) (yy w)→Wb.Good w→1≤w.length→w.length≤14→Dv Z H (.ref p) (.mV w)
 |set {a:Addr} {b:Bool} {ns:List Int}:H a=some (.ext (rk b a ns))→Dv Z H (.ref a) (.set b ns)
 |x {a:Addr} {φ:Heap→Prop} {k:XD}:H a=some (.ext φ)→nu H a φ k→Dv Z H (.ref a) (.x k)
 |err {a C:Addr} {od:Option Addr} {ks:List Str} {xs:List V} {ds:List D}:H a=some (uO C a od)→pQ H od ks xs→ao Z H xs ds→Dv Z H (.ref a) (.err C ks ds)
inductive ao (Z:DC) (H:Hp):List V→List D→Prop
 |nil:ao Z H [] []
 |cons {v:V} {vs:List V} {d:D} {ds:List D}:Dv Z H v d→ao Z H vs ds→ao Z H (v::vs) (d::ds)
end
theorem ay.mono{K:PySem.W.Frag}{H H':Hp}{a:Addr}{xs:List V}(s:ak H H')(h:ay K H a xs):ay K H' a xs:=by
 rcases h with (h| ⟨o,h⟩) |h
 ·exact .inl (.inl (s _ _ h))
 ·exact .inl (.inr ⟨o,s _ _ h⟩)
 ·exact .inr h
section
variable {Z:DC} {H H' G G':Hp}
theorem Dv.ofInt{v:V}{i:Int}(h:Dv Z H v (.int i)):v= .int i:=by cases h;rfl
theorem Dv.fM{v:V}{ds:List D}(h:Dv Z H v (.lst ds)):∃a xs,v= .ref a∧H a=some (.lst xs)∧ao Z H xs ds:=by cases h with|lst h e=>exact ⟨_,_,rfl,h,e⟩
theorem Dv.kO{v:V}{ds:List D}(h:Dv Z H v (.tup ds)):∃a xs,v= .ref a∧H a=some (.tup xs)∧ao Z H xs ds:=by cases h with|tup h e=>exact ⟨_,_,rfl,h,e⟩
theorem Dv.oN{v:V}{ns:List Int}(h:Dv Z H v (.ik ns)):∃a,v= .ref a∧ay Z.K H a (ns.map V.int)∧ns.length≤63:=by cases h with|ik h z=>exact ⟨_,rfl,h,z⟩
theorem ao.oM{vs:List V}(h:ao Z H vs []):vs= []:=by cases h;rfl
theorem ao.qB{vs:List V}{d:D}{ds:List D}(h:ao Z H vs (d::ds)):∃v us,vs=v::us∧Dv Z H v d∧ao Z H us ds:=by cases h with|cons a b=>exact ⟨_,_,rfl,a,b⟩
theorem ao.ofOne{vs:List V}{d:D}(h:ao Z H vs [d]):∃v,vs= [v]∧Dv Z H v d:=by
 obtain ⟨v,us,rfl,a,b⟩:=h.qB;rw [b.oM];exact ⟨v,rfl,a⟩
mutual
theorem Dv.mono(s:ak H H'):∀{v:V}{d:D},Dv Z H v d→Dv Z H' v d
 |_,_, .aC=> .aC
 |_,_, .bl b=> .bl b
 |_,_, .int i=> .int i
 |_,_, .str x h=> .str x h
 |_,_, .lst h a=> .lst (s _ _ h) (ao.mono s a)
 |_,_, .tup h a=> .tup (s _ _ h) (ao.mono s a)
 |_,_, .obj a=> .obj a
 |_,_, .rng h=> .rng (s _ _ h)
 |_,_, .ik h z=> .ik (h.mono s) z
 |_,_, .mV h r g a b=> .mV (s _ _ h) (Dv.mono s r) g a b
 |_,_, .set h=> .set (s _ _ h)
 |_,_, .x h k=> .x (s _ _ h) (k.mono s)
 |_,_, .err h k a=> .err (s _ _ h) (k.mono s) (ao.mono s a)
theorem ao.mono(s:ak H H'):∀{vs:List V}{ds:List D},ao Z H vs ds→ao Z H' vs ds
 |_,_, .nil=> .nil
 |_,_, .cons a as=> .cons (Dv.mono s a) (ao.mono s as)
end
theorem ao.length:∀{vs:List V}{ds:List D},ao Z H vs ds→vs.length=ds.length
 |_,_, .nil=>rfl
 |_,_, .cons _ as=>congrArg (·+1) as.length
theorem ao.get:∀{vs:List V}{ds:List D}{i:Nat}{d:D},ao Z H vs ds→ds[i]? =some d→∃v,vs[i]? =some v∧Dv Z H v d
 |_,_,_,_, .nil,e=>by simp at e
 |_,_,0,_, .cons a as,e=>by simp at e;subst e;exact ⟨_,rfl,a⟩
 |_,_,i+1,d, .cons a as,e=>by
  obtain ⟨v,h1,h2⟩:=ao.get (i:=i) (d:=d) as (by simpa using e)
  exact ⟨v,by simpa using h1,h2⟩
theorem ao.rG:∀{vs:List V}{ds:List D}{i:Nat}{v:V},ao Z H vs ds→vs[i]? =some v→∃d,ds[i]? =some d∧Dv Z H v d
 |_,_,_,_, .nil,e=>by simp at e
 |_,_,0,_, .cons a as,e=>by simp at e;subst e;exact ⟨_,rfl,a⟩
 |_,_,i+1,d, .cons a as,e=>by
  obtain ⟨v,h1,h2⟩:=ao.rG (i:=i) (v:=d) as (by simpa using e)
  exact ⟨v,by simpa using h1,h2⟩
theorem ao.append:∀{vs us:List V}{ds es:List D},ao Z H vs ds→ao Z H us es→ao Z H (vs++us) (ds++es)
 |_,_,_,_, .nil,b=>b
 |_,_,_,_, .cons a as,b=> .cons a (as.append b)
theorem ao.snoc{vs:List V}{ds:List D}{v:V}{d:D}(a:ao Z H vs ds)(b:Dv Z H v d):ao Z H (vs++ [v]) (ds++ [d]):=a.append (.cons b .nil)
structure Ext (G H G' H':Hp):Prop where
 gg:ak G G'
 sub:ak G' H'
 hh:ak H H'
 off:∀b,H b≠none→G b=none→G' b=none
theorem Ext.refl(s:ak G H):Ext G H G H:=⟨.refl _,s, .refl _,λ_ _ h=>h⟩
theorem Ext.trans{G1 H1 G2 H2:Hp}(a:Ext G H G1 H1)(b:Ext G1 H1 G2 H2):Ext G H G2 H2:=
 ⟨a.gg.trans b.gg,b.sub,a.hh.trans b.hh,λx h g=>b.off x (λz=>by
  cases e:H x with
  |none=>exact h e
  |some o=>rw [a.hh x o e] at z;cases z) (a.off x h g)⟩
theorem Ext.new{p:Addr}{o:HO}(s:ak G H)(h:H p=none):Ext G H (upd G p o) (upd H p o):=by
 have hg:G p=none:=s.free h;refine ⟨aq hg o,λb u e=>?_,aq h o,λb hb hg=>?_⟩
 ·by_cases z:b=p
  ·subst z;rw [ae] at e ⊢;exact e
  ·rw [af z] at e ⊢;exact s b u e
 ·have:b≠p:=λz=>hb (by rw [z];exact h)
  rw [af this];exact hg
end
abbrev DN:=List (Option D)
structure bK (Z:DC) (G:Hp) (σ:St) (ρ:DN):Prop where
 len:ρ.length=σ.length
 at_:∀(i:Nat)(d:D),ρ[i]? =some (some d)→∃v,σ[i]? =some (some v)∧Dv Z G v d
section
variable {Z:DC} {G G' H H':Hp} {σ:St} {ρ:DN}
theorem bK.mono(e:bK Z G σ ρ)(s:ak G G'):bK Z G' σ ρ:=⟨e.len,λi d h=>let ⟨v,a,b⟩:=e.at_ i d h;⟨v,a,b.mono s⟩⟩
theorem bK.set{i:Nat}{v:V}{d:D}(e:bK Z G σ ρ)(h:Dv Z G v d):bK Z G (σ.set i (some v)) (ρ.set i (some d)):=by
 refine ⟨by rw [kh,kh];exact e.len,λj c hj=>?_⟩
 by_cases z:i=j
 ·subst z
  by_cases hi:i<ρ.length
  ·rw [iJ hi] at hj
   cases hj;exact ⟨v,by rw [iJ (by rw [←e.len];exact hi)],h⟩
  ·rw [List.set_eq_of_length_le (iK hi)] at hj
   rw [List.getElem?_eq_none (iK hi)] at hj;cases hj
 ·rw [lT z] at hj ⊢
  exact e.at_ j c hj
end
abbrev bh:=DN→(D→Prop)→Prop
abbrev dD:=DN→(Bool→Prop)→Prop
abbrev fC:=DN→(List D→Prop)→Prop
abbrev kl:=D→D→(D→Prop)→Prop
abbrev iO:=D→DN→(DN→Prop)→Prop
abbrev lZ:=DN→(List D→Prop)→Prop
def cC(Z:DC)(t:bh):TE:=λσ H Q=>∃(G:Hp)(ρ:DN)(P:D→Prop),ak G H∧bK Z G σ ρ∧t ρ P∧∀d,P d→∀v G' H',Ext G H G' H'→Dv Z G' v d→Q v H'
def liftT(Z:DC)(t:dD):TT:=λσ H Q=>∃(G:Hp)(ρ:DN)(P:Bool→Prop),ak G H∧bK Z G σ ρ∧t ρ P∧∀b,P b→∀G' H',Ext G H G' H'→Q b H'
def oz(Z:DC)(t:fC):TA:=λσ H Q=>∃(G:Hp)(ρ:DN)(P:List D→Prop),ak G H∧bK Z G σ ρ∧t ρ P∧∀ds,P ds→∀vs G' H',Ext G H G' H'→ao Z G' vs ds→Q vs H'
def iY(Z:DC)(r:kl):R2:=λx y H Q=>∃(G:Hp)(a b:D)(P:D→Prop),ak G H∧Dv Z G x a∧Dv Z G y b∧r a b P∧∀d,P d→∀v G' H',Ext G H G' H'→Dv Z G' v d→Q v H'
def dI(Z:DC)(r:List D→(D→Prop)→Prop):List V→Hp→VK→Prop:=λvs H Q=>∃(G:Hp)(ds:List D)(P:D→Prop),ak G H∧ao Z G vs ds∧r ds P∧∀d,P d→∀v G' H',Ext G H G' H'→Dv Z G' v d→Q v H'
abbrev gp:=List D→(D→Prop)→Prop
def gf(Z:DC)(sd:gp):Sp:=λvs H Q _=>dI Z sd vs H Q
def DE(Z:DC)(X:Cx)(e:Expr)(t:bh):Prop:=PE X e (cC Z t)
def DT(Z:DC)(X:Cx)(e:Expr)(t:dD):Prop:=PT X e (liftT Z t)
def DA(Z:DC)(X:Cx)(es:List Expr)(t:fC):Prop:=PA X es (oz Z t)
theorem PE.imp{X:Cx}{e:Expr}{t t':TE}(h:PE X e t)(f:∀σ H Q,t' σ H Q→t σ H Q):PE X e t':=λpins s σ H Q I q=>h pins s σ H Q I (f _ _ _ q)
theorem PT.imp{X:Cx}{e:Expr}{t t':TT}(h:PT X e t)(f:∀σ H Q,t' σ H Q→t σ H Q):PT X e t':=λpins s σ H Q I q=>h pins s σ H Q I (f _ _ _ q)
theorem PA.imp{X:Cx}{es:List Expr}{t t':TA}(h:PA X es t)(f:∀σ H Q,t' σ H Q→t σ H Q):PA X es t':=λpos pins s σ H Q I q=>h pos pins s σ H Q I (f _ _ _ q)
theorem OpR.imp{X:Cx}{f:Value→Value→Sem Value}{r r':R2}(h:OpR X f r)(g:∀x y H Q,r' x y H Q→r x y H Q):OpR X f r':=λpins s σ H x y v u Q I a b q=>h pins s σ H x y v u Q I a b (g _ _ _ _ q)
theorem CallR.imp{X:Cx}{f:Value}{r r':List V→Hp→VK→Prop}(h:CallR X f r)(g:∀xs H Q,r' xs H Q→r xs H Q):CallR X f r':=λpins s σ H xs us Q I a q=>h pins s σ H xs us Q I a (g _ _ _ q)
def vp(i:Nat):bh:=λρ P=>∃d,ρ[i]? =some (some d)∧P d
def dC(d:D):bh:=λ_ P=>P d
section
variable {Z:DC} {X:Cx}
theorem bV(i:Nat){x:Str}{pos:Pos}(hN:X.N[i]? =some x:=by rfl)(hv:nq X.env.scope x:=by first|exact Or.inl rfl|exact Or.inr (Or.inl rfl) |exact Or.inr (Or.inr rfl))(hd:(x==("__debug__":Str))=false:=by decide)
  (fD:(x==("__classdict__":Str))=false:=by decide):DE Z X (.Name x pos) (vp i):=
 (lK hN hv hd fD).imp λσ H Q ⟨G,ρ,P,s,e,⟨d,hd,p⟩,q⟩=>let ⟨v,hv,dv⟩:=e.at_ i d hd;⟨v,hv,q d p v G H (.refl s) dv⟩
theorem pU{i j pos}:DE Z X (.Constant (.int i) j pos) (dC (.int i)):=ai.imp λσ H Q ⟨G,ρ,P,s,e,p,q⟩=>q _ p _ G H (.refl s) (.int i)
def sD(r:kl)(ta tb:bh):bh:=λρ P=>ta ρ λa=>tb ρ λb=>r a b P
variable {a b c:Expr} {ta tb tc:bh} {pos:Pos}
theorem oy{r:kl}:∀σ H Q,cC Z (sD r ta tb) σ H Q→pA (iY Z r) (cC Z ta) (cC Z tb) σ H Q:=by
 rintro σ H Q ⟨G,ρ,P,s,e,h,q⟩;refine ⟨G,ρ,_,s,e,h,λa ha v G1 H1 x1 dv=>?_⟩;refine ⟨G1,ρ,_,x1.sub,e.mono x1.gg,ha,λb hb u G2 H2 x2 du=>?_⟩;exact ⟨G2,a,b,P,x2.sub,dv.mono x2.gg,du,hb,λd hd v' G' H' x3 sN=>q d hd v' G' H' ((x1.trans x2).trans x3) sN⟩
def nI(t:bh):dD:=λρ P=>t ρ λd=>∃k,d= .bl k∧P k
theorem mB{t:bh}:∀σ H Q,liftT Z (nI t) σ H Q→pD (cC Z t) σ H Q:=by
 rintro σ H Q ⟨G,ρ,P,s,e,h,q⟩;refine ⟨G,ρ,_,s,e,h,?_⟩;rintro _ ⟨k,rfl,p⟩ v G1 H1 x1 dv;cases dv;exact ⟨k,rfl,q k p G1 H1 x1⟩
theorem pZ{op:CmpOp}{r:kl}(ho:OpR X (compareOp op) (iY Z r))(ha:DE Z X a ta)(hb:DE Z X b tb)(hm:behindInMarks op b=false):DT Z X (.Compare a [op] [b] pos) (nI (sD r ta tb)):=
 (bY ho ha hb hm).imp λσ H Q h=>by
  obtain h:=mB σ H Q h;exact oy σ H _ h
def sf:D→Bool
 | .aC=>false
 | .bl b=>b
 | .int i=>i !=0
 | .str x=>x.length !=0
 | .lst l=>!l.isEmpty
 | .tup l=>!l.isEmpty
 | .ik l=>!l.isEmpty
 | .rng lo hi=>decide (lo<hi)
 | .obj _=>true
 | .mV _=>true
 | .set _ l=>!l.isEmpty
 | .x _=>true
 | .err _ _ _=>true
def wV:D→Bool
 | .bl _=>true
 | .int _=>true
 | .lst _=>true
 | .tup _=>true
 | .aC=>true
 |_=>false
def vo(t:bh):dD:=λρ P=>t ρ λd=>wV d=true∧P (sf d)
theorem fS{G:Hp}{vs:List V}{ds:List D}(h:ao Z G vs ds):vs.isEmpty=ds.isEmpty:=by cases h<;>rfl
theorem iU(ha:DE Z X a ta)(he:∀whole,isTrue a X.env whole=(do let v ←whole;standAt a.pos;holding [v] (truthy v)):=by intro _;rfl):DT Z X a (vo ta):=by
 refine (mN ha he).imp ?_;rintro σ H Q ⟨G,ρ,P,s,e,h,q⟩;refine ⟨G,ρ,_,s,e,h,?_⟩;rintro d ⟨hd,p⟩ v G1 H1 x1 dv;refine ⟨sf d,?_,q _ p G1 H1 x1⟩;cases dv with
 |aC=>rfl
 |bl b=>rfl
 |int i=>rfl
 |lst h a=>exact .inl ⟨_,ay.of (x1.sub _ _ h),by rw [fS a];rfl⟩
 |tup h a=>exact .inr (.inl ⟨_,bF.of (x1.sub _ _ h),by rw [fS a];rfl⟩)
 |_=>cases hd
variable {tA uh:dD} {rest:List Expr}
def zh(t:dD)(ta tb:bh):bh:=λρ P=>t ρ λc=>if c=true then ta ρ P else tb ρ P
theorem nJ{c:Expr}(hc:DT Z X c tA)(ha:DE Z X a ta)(hb:DE Z X b tb):DE Z X (.IfExp c a b pos) (zh tA ta tb):=by
 refine (mJ hc ha hb).imp ?_;rintro σ H Q ⟨G,ρ,P,s,e,h,q⟩;refine ⟨G,ρ,_,s,e,h,λc hc G1 H1 x1=>?_⟩;cases c with
 |true=>exact eB ⟨G1,ρ,P,x1.sub,e.mono x1.gg,hc,λb hb v G2 H2 x2 d2=>q b hb v G2 H2 (x1.trans x2) d2⟩
 |false=>exact cL ⟨G1,ρ,P,x1.sub,e.mono x1.gg,hc,λb hb v G2 H2 x2 d2=>q b hb v G2 H2 (x1.trans x2) d2⟩
def vj:fC:=λ_ P=>P []
def sA(ta:bh)(t:fC):fC:=λρ P=>ta ρ λx=>t ρ λxs=>P (x::xs)
variable {es:List Expr} {t:fC} {e:Expr}
theorem dU:DA Z X [] vj:=aa.imp λσ H Q ⟨G,ρ,P,s,e,p,q⟩=>q _ p _ G H (.refl s) .nil
theorem dF(ha:DE Z X e ta)(hr:DA Z X es t)(hs:starEach (e::es) X.env=(false,eval e X.env)::starEach es X.env:=by rfl):DA Z X (e::es) (sA ta t):=by
 refine (U ha hr hs).imp ?_;rintro σ H Q ⟨G,ρ,P,s,e,h,q⟩;refine ⟨G,ρ,_,s,e,h,λa ha v G1 H1 x1 dv=>?_⟩;exact ⟨G1,ρ,_,x1.sub,e.mono x1.gg,ha,λds hd vs G2 H2 x2 cY=>q _ hd _ G2 H2 (x1.trans x2) (.cons (dv.mono x2.gg) cY)⟩
def vi(t:fC):bh:=λρ P=>t ρ λxs=>xs.length≤sizeLine∧P (.lst xs)
theorem pV(h:DA Z X es t):DE Z X (.List es pos) (vi t):=by
 refine (bg h).imp ?_;rintro σ H Q ⟨G,ρ,P,s,e,h,q⟩;refine ⟨G,ρ,_,s,e,h,?_⟩;rintro ds ⟨hl,hp⟩ vs G1 H1 x1 cY;exact ⟨by rw [cY.length];exact hl,λp wD=>q _ hp _ _ _ (x1.trans (.new x1.sub wD)) (.lst ae (cY.mono (aq (x1.sub.free wD) _)))⟩
def ku(r:List D→(D→Prop)→Prop)(t:fC):bh:=λρ P=>t ρ λds=>r ds P
theorem iB{r:List D→(D→Prop)→Prop}:∀σ H Q,cC Z (ku r t) σ H Q→oz Z t σ H λvs H1=>dI Z r vs H1 Q:=by
 rintro σ H Q ⟨G,ρ,P,s,e,h,q⟩;exact ⟨G,ρ,_,s,e,h,λds hd vs G1 H1 x1 cY=>⟨G1,ds,P,x1.sub,cY,hd,λd hp v G2 H2 x2 dv=>q d hp v G2 H2 (x1.trans x2) dv⟩⟩
theorem mi{id:String}{x:Str}{p:Pos}{r:List D→(D→Prop)→Prop}(hc:CallR X (.builtin id) (dI Z r))(hg:Gl X x)(hm:X.mg x=none)(hv:bootBuiltins x=some (.builtin id))(ha:DA Z X (e::es) t)(hn:x≠"__name__":=by decide)(eG:(x==("__debug__":Str))=false:=by decide)
  (he:starEach (e::es) X.env=(false,eval e X.env)::starEach es X.env:=by rfl) (dy:(backTo pos (starEach es X.env)).any (·.1)=false:=by rfl):
  DE Z X (.Call (.Name x p) (e::es) [] pos) (ku r t):=(ax hc hg hm hv ha hn eG he dy).imp iB
theorem di{T:String}{x:Str}{p:Pos}{r:List D→(D→Prop)→Prop}(hc:CallR X (.type T) (dI Z r))(hg:Gl X x)(hm:X.mg x=none)(hv:bootBuiltins x=some (.type T))(ha:DA Z X (e::es) t)(hn:x≠"__name__":=by decide)(eG:(x==("__debug__":Str))=false:=by decide)
  (he:starEach (e::es) X.env=(false,eval e X.env)::starEach es X.env:=by rfl) (dy:(backTo pos (starEach es X.env)).any (·.1)=false:=by rfl):
  DE Z X (.Call (.Name x p) (e::es) [] pos) (ku r t):=(gL hc hg hm hv ha hn eG he dy).imp iB
end
end L2
namespace L2
open PySem PySem.Spec PyProof.Rows
section
variable {Z:DC} {X:Cx}
def nF(p:Int→Int→Bool):kl:=λx y P=>match x,y with
 | .int i, .int j=>P (.bl (p i j))
 |_,_=>False
theorem oA{f:Value→Value→Sem Value}{p:Int→Int→Bool}(h:OpR X f (kZ λi j=> .bl (p i j))):OpR X f (iY Z (nF p)):=by
 refine h.imp ?_;rintro x y H Q ⟨G,a,b,P,s,da,db,hr,q⟩;unfold nF at hr
 split at hr
 ·exact ⟨_,_,da.ofInt,db.ofInt,q _ hr _ G H (.refl s) (.bl _)⟩
 ·exact hr.elim
end
section
variable {Z:DC} {X:Cx}
abbrev zg:kl:=nF λi j=>decide (j<i)
theorem t5:OpR X (compareOp .Gt) (iY Z zg):=oA t6
def vg:kl:=λx y P=>match x,y with
 | .lst l, .int i=>∃d,dh l i=some d∧P d
 | .tup l, .int i=>∃d,dh l i=some d∧P d
 | .ik l, .int i=>∃n,dh l i=some n∧P (.int n)
 |_,_=>False
theorem lq{G:Hp}{vs:List V}{ds:List D}{i:Int}{d:D}(h:ao Z G vs ds)(e:dh ds i=some d):∃v,dh vs i=some v∧Dv Z G v d:=by
 unfold dh at e ⊢;rw [h.length];cases z:fH ds.length i with
 |none=>rw [z] at e;cases e
 |some j=>rw [z] at e;exact h.get e
theorem ny{α β:Type}(f:α→β)(l:List α)(i:Int):dh (l.map f) i=(dh l i).map f:=by
 unfold dh;rw [dQ];cases fH l.length i with
 |none=>rfl
 |some j=>show (l.map f)[j]? =_;rw [fY];rfl
variable {a b c e:Expr} {ta tb tc te:bh} {pos:Pos}
theorem sE(ha:DE Z X a ta)(hb:DE Z X b tb)(eK:X.K=Z.K:=by rfl)(hs:jn b:=by exact λ_ _=>rfl):DE Z X (.Subscript a b pos) (sD vg ta tb):=by
 refine (aG (aB.or bW) ha hb hs).imp λσ H Q h=>?_;obtain ⟨G,ρ,P,s,e,h,q⟩:=oy σ H Q h;refine ⟨G,ρ,P,s,e,h,λd hd v G1 H1 x1 dv=>?_⟩;obtain ⟨G',bS,P',s',e',h',q'⟩:=q d hd v G1 H1 x1 dv;refine ⟨G',bS,P',s',e',h',λd2 hd2 v2 G2 H2 x2 kA=>?_⟩;obtain ⟨G,a,b,P,s,da,db,hr,q⟩:=q' d2 hd2 v2 G2 H2 x2 kA;unfold vg at hr
 split at hr
 ·obtain ⟨d,h1,hp⟩:=hr
  obtain ⟨_,_,rfl,h,e⟩:=da.fM;obtain ⟨v,hv,dv⟩:=lq e h1;exact .inl ⟨_,_,_,v,rfl,db.ofInt,ay.of (s _ _ h),hv,q _ hp _ G _ (.refl s) dv⟩
 ·obtain ⟨d,h1,hp⟩:=hr
  obtain ⟨_,_,rfl,h,e⟩:=da.kO;obtain ⟨v,hv,dv⟩:=lq e h1;exact .inr ⟨_,_,_,v,rfl,db.ofInt,bF.of (s _ _ h),hv,q _ hp _ G _ (.refl s) dv⟩
 rotate_left
 ·exact hr.elim
 ·obtain ⟨d,h1,hp⟩:=hr
  obtain ⟨_,rfl,h,_⟩:=da.oN;refine .inl ⟨_,_,_, .int d,rfl,db.ofInt,by rw [eK];exact h.mono s,by rw [ny,h1];rfl,q _ hp _ G _ (.refl s) (.int d)⟩
variable {lo hi:Option Expr} {tl th:Ey} {p2:Pos}
def rm:gp:=λds P=>match ds with
 | [.lst l]=>P (.int l.length)
 | [.tup l]=>P (.int l.length)
 | [.ik l]=>P (.int l.length)
 |_=>False
theorem pT(eK:X.K=Z.K:=by rfl):CallR X (.builtin "len") (dI Z rm):=by
 refine cX.imp ?_;rintro xs H Q ⟨G,ds,P,s,dv,hr,q⟩;unfold rm at hr
 split at hr
 ·obtain ⟨_,rfl,a⟩:=dv.ofOne
  obtain ⟨_,_,rfl,h,e⟩:=a.fM;exact ⟨_,_,rfl, .inl (ay.of (s _ _ h)),by rw [e.length];exact q _ hr _ G H (.refl s) (.int _)⟩
 ·obtain ⟨_,rfl,a⟩:=dv.ofOne
  obtain ⟨_,_,rfl,h,e⟩:=a.kO;exact ⟨_,_,rfl, .inr (bF.of (s _ _ h)),by rw [e.length];exact q _ hr _ G H (.refl s) (.int _)⟩
 ·obtain ⟨_,rfl,a⟩:=dv.ofOne
  obtain ⟨_,rfl,h,_⟩:=a.oN;exact ⟨_,_,rfl, .inl (by rw [eK];exact h.mono s),by rw [dQ];exact q _ hr _ G H (.refl s) (.int _)⟩
 ·exact hr.elim
def nA:gp:=λds P=>match ds with
 | [.lst l]=>P (.lst l)
 | [.tup l]=>P (.lst l)
 |_=>False
theorem jv:CallR X (.type "list") (dI Z nA):=by
 refine hZ.imp ?_;rintro xs H Q ⟨G,ds,P,s,dv,hr,q⟩;unfold nA at hr
 split at hr
 ·obtain ⟨_,rfl,a⟩:=dv.ofOne
  obtain ⟨_,_,rfl,h,e⟩:=a.fM;exact ⟨_,_,rfl, .inl (ay.of (s _ _ h)),λp hn=>q _ hr _ _ _ (.new s hn) (.lst ae (e.mono (aq (s.free hn) _)))⟩
 ·obtain ⟨_,rfl,a⟩:=dv.ofOne
  obtain ⟨_,_,rfl,h,e⟩:=a.kO;exact ⟨_,_,rfl, .inr (bF.of (s _ _ h)),λp hn=>q _ hr _ _ _ (.new s hn) (.lst ae (e.mono (aq (s.free hn) _)))⟩
 ·exact hr.elim
def AJ:String→D→Bool
 |"int", .int _=>true
 |"int", .bl _=>true
 |"bool", .bl _=>true
 |"list", .lst _=>true
 |"tuple", .tup _=>true
 |_,_=>false
def xR(n:String):Bool:=n=="int"||n=="bool"||n=="list"||n=="tuple"
def fk:D→Bool
 | .aC=>true
 | .bl _=>true
 | .int _=>true
 | .str _=>true
 | .lst _=>true
 | .tup _=>true
 |_=>false
theorem qs{K:PySem.W.Frag}{H:Hp}{v:V}{d:D}{n:String}(hn:xR n=true)(hd:fk d=true)(h:Dv Z H v d):∃t,bD K H v t∧PySem.W.kitOne K t (.type n)=some (AJ n d):=by
 unfold xR at hn;rw [Bool.or_eq_true,Bool.or_eq_true,Bool.or_eq_true,beq_iff_eq,beq_iff_eq,beq_iff_eq,beq_iff_eq] at hn;cases h with
 |aC=>refine ⟨_, .aC,?_⟩;rcases hn with ((rfl|rfl) |rfl) |rfl<;>kernel_rfl
 |bl b=>refine ⟨_, .bl b,?_⟩;rcases hn with ((rfl|rfl) |rfl) |rfl<;>kernel_rfl
 |int b=>refine ⟨_, .int b,?_⟩;rcases hn with ((rfl|rfl) |rfl) |rfl<;>kernel_rfl
 |str b=>refine ⟨_, .str b,?_⟩;rcases hn with ((rfl|rfl) |rfl) |rfl<;>kernel_rfl
 |lst h a=>refine ⟨_, .lst h,?_⟩;rcases hn with ((rfl|rfl) |rfl) |rfl<;>kernel_rfl
 |tup h a=>refine ⟨_, .tup h,?_⟩;rcases hn with ((rfl|rfl) |rfl) |rfl<;>kernel_rfl
 |_=>cases hd
end
section
variable {Z:DC} {X:Cx} {a b c e:Expr} {ta tb tc te:bh} {pos:Pos}
def kN(Z:DC)(g:iO):TG:=λv σ H Q=>∃(G:Hp)(ρ:DN)(d:D)(P:DN→Prop),ak G H∧bK Z G σ ρ∧Dv Z G v d∧g d ρ P∧∀bS,P bS→∀aA,bK Z G aA bS→Q aA H
def DG(Z:DC)(X:Cx)(e:Expr)(g:iO):Prop:=PG X e (kN Z g)
theorem PG.imp{e:Expr}{t t':TG}(h:PG X e t)(f:∀v σ H Q,t' v σ H Q→t v σ H Q):PG X e t':=λpins s σ H v u Q I r q=>h pins s σ H v u Q I r (f _ _ _ _ q)
def pX(i:Nat):iO:=λd ρ P=>P (ρ.set i (some d))
theorem nP(i:Nat){x:Str}(hN:X.N.Nodup)(hi:X.N[i]? =some x:=by rfl)(hx:Loc X.env.scope x:=by exact Or.inl rfl)(hf:X.fn x=true∨X.env.scope.names.lookup x=some .local:=by first|exact .inl rfl|exact .inr rfl|assumption):DG Z X (.Name x pos) (pX i):=
 (aJ hN hi hx hf).imp λv σ H Q ⟨G,ρ,d,P,s,e,dv,h,q⟩=>q _ h _ (e.set dv)
def m7(Z:DC)(G:Hp)(J:It)(ds:List D):Prop:=∀G2 H2,ak G G2→ak G2 H2→∀i:Nat,(i<ds.length→J.go i H2)∧(ds.length≤i→J.stop i H2)∧
 ∀x H',i<ds.length→J.yld i H2 x H'→∃G3 d,Ext G2 H2 G3 H'∧ds[i]? =some d∧Dv Z G3 x d
def oB(Z:DC)(wi:lZ):TI:=λσ H R=>∃(G:Hp)(ρ:DN)(P:List D→Prop),ak G H∧bK Z G σ ρ∧wi ρ P∧∀ds,P ds→∀J G' H',Ext G H G' H'→m7 Z G' J ds→R J H'
def DI(Z:DC)(X:Cx)(tg e:Expr)(wi:lZ):Prop:=PI X tg e (oB Z wi)
theorem PI.imp{tg e:Expr}{t t':TI}(h:PI X tg e t)(f:∀σ H Q,t' σ H Q→t σ H Q):PI X tg e t':=λpins s σ H Q I q=>h pins s σ H Q I (f _ _ _ q)
def sJ(t:bh):lZ:=λρ P=>t ρ λd=>match d with
 | .lst l=>P l
 |_=>False
theorem ot{K:PySem.W.Frag}{G:Hp}{a:Addr}{xs:List V}{ds:List D}(h:G a=some (.lst xs))(e:ao Z G xs ds):m7 Z G (l8 K a) ds:=by
 intro G2 H2 s1 s2 i;have h2:=ay.of (K:=K) (s2 _ _ (s1 _ _ h));have l:=e.length;refine ⟨λhi=>⟨xs,xs[i],h2,fX (by omega)⟩,λhi=>⟨xs,h2,by omega⟩,?_⟩
 rintro x H' hi ⟨rfl,hx⟩;obtain ⟨d,hd,dv⟩:=e.rG (hx _ h2);exact ⟨G2,d, .refl s2,hd,dv.mono s1⟩
theorem nQ{tg:Expr}(h:DE Z X e te):DI Z X tg e (sJ te):=by
 refine (gM h).imp ?_;rintro σ H Q ⟨G,ρ,P,s,en,h,q⟩;refine ⟨G,ρ,_,s,en,h,λd hd v G1 H1 x1 dv=>?_⟩;cases dv<;>first|exact hd.elim|skip
 rename_i ha e
 exact ⟨_,rfl,⟨_,ay.of (x1.sub _ _ ha)⟩,q _ hd _ G1 H1 x1 (ot ha e)⟩
def fz(lo:Int)(n:Nat):List D:=(List.range n).map λ(k:Nat)=>D.int (lo+(k:Int))
variable {t:fC}
def lP(src:List (Option Nat))(ρ:DN):DN:=src.map λo=>o.bind λi=>(ρ[i]?).bind id
theorem bK.src{G:Hp}{σ:St}{ρ:DN}(e:bK Z G σ ρ)(src:List (Option Nat)):bK Z G (eC src σ) (lP src ρ):=by
 refine ⟨by unfold eC lP;simp,λi d h=>?_⟩
 unfold lP at h;unfold eC;rw [fY] at h ⊢;cases k:src[i]? with
 |none=>rw [k] at h;cases h
 |some o=>
  rw [k] at h;cases o with
  |none=>cases h
  |some j=>
   have h':(ρ[j]?).bind id=some d:=Option.some.inj h;cases m:ρ[j]? with
   |none=>rw [m] at h';cases h'
   |some z=>
    rw [m] at h';have h2:z=some d:=h';subst h2;obtain ⟨v,hv,dv⟩:=e.at_ j d m;exact ⟨v,by show some ((σ[j]?).bind id)=_;rw [hv];rfl,dv⟩
def ig(g:iO)(tt:dD)(te:bh):List D→DN→List D→(DN→List D→Prop)→Prop
 | [],ρ,acc,N=>N ρ acc
 |x::xs,ρ,acc,N=>g x ρ λcf=>tt cf λb=>if b=true then te cf λd=>acc.length<sizeLine∧ig g tt te xs cf (acc++ [d]) N else ig g tt te xs cf acc N
def vh(wi:lZ)(g:iO)(tt:dD)(te:bh)(src:List (Option Nat)):bh:=λρ P=>wi ρ λds=>ig g tt te ds (lP src ρ) [] λ_ out=>P (.lst out)
def uN(Z:DC)(X:Cx)(ifs:List Expr)(t:dD):Prop:=ko X ifs (liftT Z t)
theorem nT{tA:dD}(h:DT Z X c tA):uN Z X [c] tA:=oU h
def CS(Z:DC)(G1 H1:Hp)(Ad:Addr)(ρ:DN)(acc:List D)(σ:St)(H:Hp):Prop:=
 ∃(G:Hp)(ys:List V),ak G1 G∧ak G H∧ak H1 H∧(∀b,H1 b≠none→G1 b=none→G b=none)∧G Ad=none∧H Ad=some (.lst ys)∧ao Z G ys acc∧bK Z G σ ρ
theorem gU{H H':Hp}(s:ak H H'){b:Addr}(h:H b≠none):H' b≠none:=λz=>by
 cases e:H b with
 |none=>exact h e
 |some o=>rw [s b o e] at z;cases z
theorem nR{α:Type}{l:List α}{i:Nat}{x:α}(h:l[i]? =some x):l.drop i=x::l.drop (i+1):=by
 obtain ⟨hi,e⟩:=jk.mp h;rw [List.drop_eq_getElem_cons hi,e]
theorem mz{G1 H1:Hp}{Ad:Addr}{J:It}{ds:List D}{g:iO}{tt:dD}{te:bh}{N:DN→List D→Prop}(hA:H1 Ad=none)(G0:Hp)(it:m7 Z G0 J ds)(i:Nat)(ρ:DN)(acc:List D)(σ:St)(H:Hp)
  (c:CS Z G1 H1 Ad ρ acc σ H) (hG:∀G,ak G1 G→ak G0 G) (hi:i<ds.length) (h:ig g tt te (ds.drop i) ρ acc N):
  J.go i H∧∀x H3,J.yld i H x H3→kN Z g x σ H3 λcy H4=>liftT Z tt cy H4 λb H5=>
   if b=true then cC Z te cy H5 λv H6=>∃ys,H6 Ad=some (.lst ys)∧ys.length<sizeLine∧(∃bS jr,CS Z G1 H1 Ad bS jr cy (upd H6 Ad (.lst (ys++ [v])))∧ig g tt te (ds.drop (i+1)) bS jr N)
   else ∃bS jr,CS Z G1 H1 Ad bS jr cy H5∧ig g tt te (ds.drop (i+1)) bS jr N:=by
 obtain ⟨G2,ys,s1,s2,s3,off,gA,nU,cY,en⟩:=c;obtain ⟨go,_,yld⟩:=it G2 H (hG _ s1) s2 i;refine ⟨go hi,λx H3 y=>?_⟩;obtain ⟨G3,d,x3,hd,dv⟩:=yld x H3 hi y;rw [nR hd] at h;refine ⟨G3,ρ,d,_,x3.sub,en.mono x3.gg,dv,h,λcf h1 cy p8=>?_⟩;refine ⟨G3,cf,_,x3.sub,p8,h1,λb hb G5 H5 x5=>?_⟩;have kc:=x3.trans x5;have oP:∀{G hU:Hp},Ext G2 H G hU→G Ad=none:=λx=>x.off Ad (by rw [nU];exact λz=>nomatch z) gA
 have rS:∀{G hU:Hp},Ext G2 H G hU→∀b,H1 b≠none→G1 b=none→G b=none:=λx b h1 h2=>x.off b (gU s3 h1) (off b h1 h2);cases b with
 |false=>
  refine cL ⟨cf,acc,⟨G5,ys,s1.trans kc.gg,kc.sub,s3.trans kc.hh,rS kc,oP kc,kc.hh _ _ nU,cY.mono kc.gg,p8.mono x5.gg⟩,?_⟩;simpa using hb
 |true=>
  refine eB ⟨G5,cf,_,x5.sub,p8.mono x5.gg,(by simpa using hb),λd' eY v G6 H6 x6 zr=>?_⟩
  have x:=kc.trans x6;refine ⟨ys,x.hh _ _ nU,by rw [cY.length];exact eY.1,cf,_,⟨G6,ys++ [v],s1.trans x.gg,λb o e=>?_,λb o e=>?_,rS x,oP x,ae,(cY.mono x.gg).snoc zr,(p8.mono x5.gg).mono x6.gg⟩,eY.2⟩
  ·rw [af (aj e (oP x))];exact x.sub _ _ e
  ·rw [af (aj e hA)];exact (s3.trans x.hh) _ _ e
theorem CS.done{G H G1 H1 H2:Hp}{Ad:Addr}{ρ:DN}{acc:List D}{σ:St}(c:CS Z G1 H1 Ad ρ acc σ H2)(x1:Ext G H G1 H1)(hA:H1 Ad=none):∃G',Ext G H G' H2∧Dv Z G' (.ref Ad) (.lst acc):=by
 obtain ⟨G2,ys,s1,s2,s3,off,gA,nU,cY,en⟩:=c;refine ⟨upd G2 Ad (.lst ys),⟨(x1.gg.trans s1).trans (aq gA _),λb o e=>?_,x1.hh.trans s3,λb hb hg=>?_⟩, .lst ae (cY.mono (aq gA _))⟩
 ·by_cases z:b=Ad
  ·subst z;rw [ae] at e;cases e;exact nU
  ·rw [af z] at e;exact s2 _ _ e
 ·have h1:=gU x1.hh hb
  rw [af (λz=>h1 (by rw [z];exact hA))]
  exact off b h1 (x1.off b hb hg)
theorem CS.begin{G1 H1:Hp}{Ad:Addr}{ρ:DN}{σ:St}(s:ak G1 H1)(hA:H1 Ad=none)(en:bK Z G1 σ ρ):CS Z G1 H1 Ad ρ [] σ (upd H1 Ad (.lst [])):=
 ⟨G1,[], .refl _,λb o e=>by rw [af (aj e (s.free hA))];exact s _ _ e,aq hA _,λ_ _ h=>h,s.free hA,ae, .nil,en⟩
variable {tg iter elt:Expr} {ifs:List Expr} {scope:Scope} {NC:List Str} {src:List (Option Nat)} {wi:lZ} {g:iO} {tt:dD}
theorem qu:∀σ H Q,cC Z (vh wi g tt te src) σ H Q→um (oB Z wi) (kN Z g) (liftT Z tt) (cC Z te) src σ H Q:=by
 rintro σ H Q ⟨G,ρ,P,s,en,h,q⟩;refine ⟨G,ρ,_,s,en,h,λds hd J G1 H1 x1 it Ad hA=>?_⟩;refine ⟨λi m dt H2=>m=ds.length-i∧i≤ds.length∧∃rg acc,CS Z G1 H1 Ad rg acc dt H2∧ig g tt te (ds.drop i) rg acc λ_ out=>P (.lst out),⟨_,rfl,Nat.zero_le _,_,[], .begin x1.sub hA ((en.mono x1.gg).src src),hd⟩,?_⟩;rintro i m dt H2 ⟨rfl,hi,rg,acc,c,hl⟩
 by_cases ek:i<ds.length
 ·obtain ⟨go,turn⟩:=mz hA G1 it i rg acc dt H2 c (λ_ s=>s) ek hl
  exact .inr ⟨go,_,λaA H' n=>⟨ds.length-(i+1),by omega,rfl,ek,n⟩,turn⟩
 ·have e:ds.drop i= []:=List.drop_eq_nil_of_le (by omega)
  rw [e] at hl;obtain ⟨G',x,dv⟩:=c.done x1 hA;obtain ⟨G2,ys,s1,s2,_⟩:=c;exact .inl ⟨(it G2 H2 s1 s2 i).2.1 (by omega),q _ hl _ G' H2 x dv⟩
theorem sF(hc:X.calm=true)(c:aR X scope)(ez:bH scope X.N src NC)(hi:DI Z X tg iter wi)
  (hg:∀ex s H,DG Z (dE X scope NC ex s H) tg g) (ht:∀ex s H,uN Z (dE X scope NC ex s H) ifs tt) (he:∀ex s H,DE Z (dE X scope NC ex s H) elt te)
  (hs:∀x,foldedSetIterable iter X.env x=pure x:=by intro _;rfl):DE Z X (.ListComp elt [⟨tg,iter,ifs,0⟩] scope pos) (vh wi g tt te src):=(i9 hc c ez hi hg ht he hs).imp qu
variable {t0 i0 t1 i1:Expr} {f0 f1:List Expr} {ET:lZ} {g1:iO} {ER:dD}
end
inductive er (R:V→D→List Addr→Prop):List V→List D→List Addr→Prop
 |nil:er R [] [] []
 |cons {v:V} {vs:List V} {d:D} {ds:List D} {f fs:List Addr}:R v d f→er R vs ds fs→er R (v::vs) (d::ds) (f++fs)
def wU:D→Bool
 | .lst _=>true
 |_=>false
def Own(Z:DC)(G H:Hp):Nat→V→D→List Addr→Prop
 |0,v,d,fp=>Dv Z G v d∧fp= []
 |n+1,v,d,fp=>(∃a xs ds ml,v= .ref a∧d= .lst ds∧H a=some (.lst xs)∧fp=a::ml∧er (Own Z G H n) xs ds ml)∨(1≤n∧∃a xs ds,v= .ref a∧d= .tup ds∧G a=some (.tup xs)∧er (λv d f=>(wU d=true∧Own Z G H n v d f)∨(wU d=false∧Dv Z G v d∧f= [])) xs ds fp)∨(∃a φ,v= .ref a∧H a=some (.ext φ)∧fp= [a]∧((n=98∧∃b ns,d= .set b ns∧φ=rk b a ns)∨(n=97∧∃k,d= .x k∧nu G a φ k)))
theorem er.imp{R R':V→D→List Addr→Prop}:∀{vs:List V}{ds:List D}{fp:List Addr},er R vs ds fp→(∀v d f,(∀b∈f,b∈fp)→R v d f→R' v d f)→er R' vs ds fp
 |_,_,_, .nil,_=> .nil
 |_,_,_, .cons a as,h=> .cons (h _ _ _ (λb hb=>lS _ hb) a) (as.imp λv d f hf r=>h v d f (λb hb=>eR _ (hf b hb)) r)
section
variable {Z:DC} {G G' H H':Hp}
theorem Own.keep:∀{n:Nat}{v:V}{d:D}{fp:List Addr},Own Z G H n v d fp→ak G G'→(∀b∈fp,H' b=H b)→Own Z G' H' n v d fp
 |0,_,_,_,⟨a,b⟩,s,_=>⟨a.mono s,b⟩
 |n+1,_,_,_, .inl ⟨a,xs,ds,ml,hv,hd,ha,hf,ho⟩,s,k=>by
  subst hf;exact .inl ⟨a,xs,ds,ml,hv,hd,by rw [k a (de ..)];exact ha,rfl,ho.imp λv d f hb r=>Own.keep r s λb q=>k b (dB _ (hb b q))⟩
 |n+1,_,_,_, .inr (.inl ⟨h1,a,xs,ds,hv,hd,ha,ho⟩),s,k=> .inr (.inl ⟨h1,a,xs,ds,hv,hd,s _ _ ha,ho.imp λv d f hb r=>r.imp (λr=>⟨r.1,Own.keep r.2 s λb q=>k b (hb b q)⟩) λr=>⟨r.1,r.2.1.mono s,r.2.2⟩⟩)
 |n+1,_,_,_, .inr (.inr ⟨a,φ,hv,ha,hf,hx⟩),s,k=> .inr (.inr ⟨a,φ,hv,by rw [k a (by rw [hf];exact de ..)];exact ha,hf,hx.imp id λ⟨h1,k,h2,h3⟩=>⟨h1,k,h2,h3.mono s⟩⟩)
theorem er.jy{R:V→D→List Addr→Prop}:∀{vs:List V}{ds:List D}{fp:List Addr},er R vs ds fp→(∀v d f,(∀b∈f,b∈fp)→R v d f→Dv Z G' v d)→ao Z G' vs ds
 |_,_,_, .nil,_=> .nil
 |_,_,_, .cons a as,k=> .cons (k _ _ _ (λb hb=>lS _ hb) a) (as.jy λv d f hf r=>k v d f (λb hb=>eR _ (hf b hb)) r)
theorem Own.dv:∀{n:Nat}{v:V}{d:D}{fp:List Addr},Own Z G H n v d fp→ak G G'→(∀b∈fp,∀o,H b=some o→G' b=some o)→Dv Z G' v d
 |0,_,_,_,⟨a,_⟩,s,_=>a.mono s
 |n+1,_,_,_, .inl ⟨a,xs,ds,ml,hv,hd,ha,hf,ho⟩,s,k=>by
  subst hf hv hd;exact .lst (k a (de ..) _ ha) (ho.jy λv d f hf r=>Own.dv r s λb hb=>k b (dB _ (hf b hb)))
 |n+1,_,_,_, .inr (.inl ⟨_,a,xs,ds,hv,hd,ha,ho⟩),s,k=>by
  subst hv hd;exact .tup (s _ _ ha) (ho.jy λv d f hf r=>r.elim (λr=>Own.dv r.2 s λb hb=>k b (hf b hb)) λr=>r.2.1.mono s)
 |n+1,_,_,_, .inr (.inr ⟨a,φ,hv,ha,hf,hx⟩),s,k=>by
  subst hv hf
  rcases hx with ⟨_,b,ns,hd,hp⟩ | ⟨_,kx,hd,hp⟩
  ·subst hd hp
   exact .set (k a (de ..) _ ha)
  ·subst hd
   exact .x (k a (de ..) _ ha) (hp.mono s)
end
mutual
def dA:D→Bool
 | .aC=>true
 | .bl _=>true
 | .int _=>true
 | .str _=>true
 | .tup l=>lE l
 |_=>false
def lE:List D→Bool
 | []=>true
 |d::ds=>dA d&&lE ds
end
mutual
theorem Dv.dA{Z:DC}{G G':Hp}(k:∀b xs,G b=some (.tup xs)→G' b=some (.tup xs)):∀{v:V}{d:D},Dv Z G v d→L2.dA d=true→Dv Z G' v d
 |_,_, .aC,_=> .aC
 |_,_, .bl b,_=> .bl b
 |_,_, .int i,_=> .int i
 |_,_, .str x h,_=> .str x h
 |_,_, .tup h a,f=> .tup (k _ _ h) (ao.dA k a (by rw [L2.dA] at f;exact f))
 |_,_, .lst _ _,f=>by simp [L2.dA] at f
 |_,_, .obj _,f=>by simp [L2.dA] at f
 |_,_, .rng _,f=>by simp [L2.dA] at f
 |_,_, .ik _ _,f=>by simp [L2.dA] at f
 |_,_, .mV _ _ _ _ _,f=>by simp [L2.dA] at f
 |_,_, .set _,f=>by simp [L2.dA] at f
 |_,_, .x _ _,f=>by simp [L2.dA] at f
 |_,_, .err _ _ _,f=>by simp [L2.dA] at f
theorem ao.dA{Z:DC}{G G':Hp}(k:∀b xs,G b=some (.tup xs)→G' b=some (.tup xs)):∀{vs:List V}{ds:List D},ao Z G vs ds→lE ds=true→ao Z G' vs ds
 |_,_, .nil,_=> .nil
 |_,_, .cons a as,f=>by
  rw [lE,Bool.and_eq_true] at f;exact .cons (Dv.dA k a f.1) (ao.dA k as f.2)
end
def rV:HO→Bool
 | .lst _=>true
 | .ext _=>true
 |_=>false
theorem Own.sO{Z:DC}{G G' H:Hp}:∀{n:Nat}{v:V}{d:D}{fp:List Addr},Own Z G H n v d fp→ak G G'→(∀b∈fp,∀o,rV o=true→H b=some o→G' b=some o)→Dv Z G' v d
 |0,_,_,_,⟨a,_⟩,s,_=>a.mono s
 |n+1,_,_,_, .inl ⟨a,xs,ds,ml,hv,hd,ha,hf,ho⟩,s,k=>by
  subst hf hv hd;exact .lst (k a (de ..) _ rfl ha) (ho.jy λv d f hf r=>Own.sO r s λb hb=>k b (dB _ (hf b hb)))
 |n+1,_,_,_, .inr (.inl ⟨_,a,xs,ds,hv,hd,ha,ho⟩),s,k=>by
  subst hv hd;exact .tup (s _ _ ha) (ho.jy λv d f hf r=>r.elim (λr=>Own.sO r.2 s λb hb=>k b (hf b hb)) λr=>r.2.1.mono s)
 |n+1,_,_,_, .inr (.inr ⟨a,φ,hv,ha,hf,hx⟩),s,k=>by
  subst hv hf
  rcases hx with ⟨_,b,ns,hd,hp⟩ | ⟨_,kx,hd,hp⟩
  ·subst hd hp
   exact .set (k a (de ..) _ rfl ha)
  ·subst hd
   exact .x (k a (de ..) _ rfl ha) (hp.mono s)
structure Bs where
 G₀:Hp
 H₀:Hp
 Gf:Hp
structure cv (Z:DC) (B:Bs) (md:List Nat) (ρ:DN) (σ:St) (H G:Hp) (fp:Nat→List Addr):Prop where
 ex:Ext B.G₀ B.H₀ G H
 fl:ak B.Gf G
 len:ρ.length=σ.length
 at_:∀(i:Nat)(d:D),ρ[i]? =some (some d)→∃v,σ[i]? =some (some v)∧Own Z G H (md.getD i 0) v d (fp i)
 nd:∀i,(fp i).Nodup
 ap:∀i j b,i≠j→b∈fp i→b∉fp j
 nw:∀i b,b∈fp i→B.H₀ b=none∧H b≠none∧G b=none
def SI(Z:DC)(B:Bs)(md:List Nat)(ρ:DN)(σ:St)(H:Hp):Prop:=∃G fp,cv Z B md ρ σ H G fp
def bQ:List Nat→DN→DN
 |_,[]=> []
 | [],o::ρ=>o::ρ
 |0::md,o::ρ=>o::bQ md ρ
 | (_+1)::md,_::ρ=>none::bQ md ρ
theorem eN:∀(md:List Nat)(ρ:DN),(bQ md ρ).length=ρ.length
 |md,[]=>by cases md<;>rfl
 | [],o::ρ=>rfl
 |0::md,o::ρ=>by rw [bQ,fP,eN md ρ,fP]
 | (_+1)::md,_::ρ=>by rw [bQ,fP,eN md ρ,fP]
theorem fO{d:D}:∀(md:List Nat)(ρ:DN)(i:Nat),(bQ md ρ)[i]? =some (some d)→md.getD i 0=0∧ρ[i]? =some (some d)
 |md,[],i,h=>by cases md<;>simp [bQ] at h
 | [],o::ρ,i,h=>⟨by simp,h⟩
 |0::md,o::ρ,0,h=>⟨rfl,by simpa [bQ] using h⟩
 |0::md,o::ρ,i+1,h=>by
  rw [bQ,lR] at h;obtain ⟨a,b⟩:=fO md ρ i h;exact ⟨by rw [List.getD_cons_succ];exact a,by rw [lR];exact b⟩
 | (_+1)::md,_::ρ,0,h=>by simp [bQ] at h
 | (_+1)::md,_::ρ,i+1,h=>by
  rw [bQ,lR] at h;obtain ⟨a,b⟩:=fO md ρ i h;exact ⟨by rw [List.getD_cons_succ];exact a,by rw [lR];exact b⟩
def qZ(md:List Nat):Bool→DN→DN
 |true,ρ=>ρ
 |false,ρ=>bQ md ρ
def lu:Bool→D→Prop
 |true,d=>dA d=true
 |false,_=>True
section
variable {Z:DC} {B:Bs} {md:List Nat} {ρ:DN} {σ:St} {H G:Hp} {fp:Nat→List Addr}
theorem kY{i:Nat}{d:D}(h:(bQ md ρ)[i]? =some (some d)):md.getD i 0=0∧ρ[i]? =some (some d):=fO md ρ i h
theorem cv.vD(S:cv Z B md ρ σ H G fp):bK Z G σ (bQ md ρ):=by
 refine ⟨by rw [eN];exact S.len,λi d h=>?_⟩
 obtain ⟨z,h⟩:=kY h;obtain ⟨v,hv,o⟩:=S.at_ i d h;rw [z] at o;exact ⟨v,hv,o.1⟩
theorem cv.vC(S:cv Z B md ρ σ H G fp):bK Z H σ ρ:=by
 refine ⟨S.len,λi d h=>?_⟩;obtain ⟨v,hv,o⟩:=S.at_ i d h;exact ⟨v,hv,o.dv S.ex.sub λb _ u e=>e⟩
theorem cv.grow{G' H':Hp}(S:cv Z B md ρ σ H G fp)(x:Ext G H G' H'):cv Z B md ρ σ H' G' fp where
 ex:=S.ex.trans x
 fl:=S.fl.trans x.gg
 len:=S.len
 at_:=λi d h=>by
  obtain ⟨v,hv,o⟩:=S.at_ i d h;refine ⟨v,hv,o.keep x.gg λb hb=>?_⟩;cases e:H b with
  |none=>exact absurd e (S.nw i b hb).2.1
  |some u=>exact x.hh _ _ e
 nd:=S.nd
 ap:=S.ap
 nw:=λi b hb=>let ⟨h1,h2,h3⟩:=S.nw i b hb;⟨h1,gU x.hh h2,x.off b h2 h3⟩
theorem Ext.all{G' H':Hp}(s:ak G H)(x:Ext H H G' H'):Ext G H G H':=⟨.refl _,s.trans x.hh,x.hh,λ_ _ h=>h⟩
open Classical in
noncomputable def ck(G H:Hp)(fp:Nat→List Addr):Hp:=λb=>if ∃i,b∈fp i then (match H b with|some (.lst xs)=>some (.lst xs) |some (.ext φ)=>some (.ext φ) |_=>none) else G b
open Classical in
noncomputable def fI(G:Hp)(fp:Nat→List Addr):Hp:=λb=>if ∃i,b∈fp i then none else G b
theorem mW{b:Addr}{o:HO}(i:Nat)(h:b∈fp i)(ho:rV o=true)(e:H b=some o):ck G H fp b=some o:=by
 unfold ck;rw [if_pos ⟨i,h⟩,e];cases o<;>first|rfl|cases ho
theorem eQ{b:Addr}(h:¬∃i,b∈fp i):ck G H fp b=G b:=if_neg h
theorem cv.rD(S:cv Z B md ρ σ H G fp):ak G (ck G H fp)∧ak (ck G H fp) H∧bK Z (ck G H fp) σ ρ:=by
 have s1:ak G (ck G H fp):=λb o e=>by
  by_cases h:∃i,b∈fp i
  ·obtain ⟨i,hi⟩:=h
   rw [(S.nw i b hi).2.2] at e;cases e
  ·rw [eQ h];exact e
 refine ⟨s1,λb o e=>?_,S.len,λi d h=>?_⟩
 ·by_cases h:∃i,b∈fp i
  ·unfold ck at e
   rw [if_pos h] at e
   split at e
   ·next xs hx=>rw [hx];exact e
   ·next φ hx=>rw [hx];exact e
   ·cases e
  ·rw [eQ h] at e;exact S.ex.sub _ _ e
 ·obtain ⟨v,hv,o⟩:=S.at_ i d h
  exact ⟨v,hv,o.sO s1 λb hb u hu hx=>mW i hb hu hx⟩
theorem cv.xQ{G' H':Hp}(S:cv Z B md ρ σ H G fp)(x:Ext (ck G H fp) H G' H'):Ext G H (fI G' fp) H'∧∀b xs,G' b=some (.tup xs)→fI G' fp b=some (.tup xs):=by
 obtain ⟨s1,s2,_⟩:=S.rD;refine ⟨⟨λb o e=>?_,λb o e=>?_,x.hh,λb hb hg=>?_⟩,λb xs e=>?_⟩
 ·have h:¬∃i,b∈fp i:=by
   rintro ⟨i,hi⟩;rw [(S.nw i b hi).2.2] at e;cases e
  unfold fI;rw [if_neg h];exact x.gg _ _ (s1 _ _ e)
 ·unfold fI at e
  split at e
  ·cases e
  ·exact x.sub _ _ e
 ·unfold fI
  split
  ·rfl
  ·next h=>exact x.off b hb (by rw [eQ h];exact hg)
 ·have h:¬∃i,b∈fp i:=by
   rintro ⟨i,hi⟩;have hb:=(S.nw i b hi).2.1;cases hw:ck G H fp b with
   |none=>rw [x.off b hb hw] at e;cases e
   |some o=>
    have:=x.gg _ _ hw
    rw [e] at this;cases this;unfold ck at hw;rw [if_pos ⟨i,hi⟩] at hw
    split at hw<;>cases hw
  unfold fI;rw [if_neg h];exact e
theorem cv.ev{t:bh}{P:D→Prop}{Q:VK}(S:cv Z B md ρ σ H G fp)(m:Bool)(h:t (qZ md m ρ) P)
  (hq:∀d,P d→lu m d∧∀v G' H',cv Z B md ρ σ H' G' fp→Ext G H G' H'→Dv Z G' v d→Q v H'):cC Z t σ H Q:=by
 cases m with
 |false=>exact ⟨G,_,P,S.ex.sub,S.vD,h,λd hd v G' H' x dv=>(hq d hd).2 v G' H' (S.grow x) x dv⟩
 |true=>
  obtain ⟨s1,s2,e⟩:=S.rD;refine ⟨ck G H fp,_,P,s2,e,h,λd hd v G' H' x dv=>?_⟩;obtain ⟨x',k⟩:=S.xQ x;exact (hq d hd).2 v _ H' (S.grow x') x' (dv.dA k (hq d hd).1)
theorem cv.zM{t:dD}{P:Bool→Prop}{Q:Bool→Hp→Prop}(S:cv Z B md ρ σ H G fp)(h:t ρ P)(hq:∀b,P b→∀H',cv Z B md ρ σ H' G fp→Q b H'):liftT Z t σ H Q:=
 ⟨H,ρ,P, .refl _,S.vC,h,λb hb G' H' x=>hq b hb H' (S.grow (Ext.all S.ex.sub x))⟩
theorem cv.yb{i:Nat}{v:V}{d:D}(S:cv Z B md ρ σ H G fp)(hm:md.getD i 0=0)(dv:Dv Z G v d):cv Z B md (ρ.set i (some d)) (σ.set i (some v)) H G (λj=>if j=i then [] else fp j) where
 ex:=S.ex
 fl:=S.fl
 len:=by rw [kh,kh];exact S.len
 at_:=λj c h=>by
  by_cases z:i=j
  ·subst z
   by_cases hi:i<ρ.length
   ·rw [iJ hi] at h
    cases h;exact ⟨v,iJ (by rw [←S.len];exact hi),by rw [hm,if_pos rfl];exact ⟨dv,rfl⟩⟩
   ·rw [List.set_eq_of_length_le (iK hi),List.getElem?_eq_none (iK hi)] at h;cases h
  ·rw [lT z] at h ⊢
   rw [if_neg (Ne.symm z)];exact S.at_ j c h
 nd:=λj=>by split;exact List.nodup_nil;exact S.nd j
 ap:=λj k b ne hj hk=>by
  split at hj
  ·cases hj
  ·split at hk
   ·cases hk
   ·exact S.ap j k b ne hj hk
 nw:=λj b hb=>by
  split at hb
  ·cases hb
  ·exact S.nw j b hb
noncomputable def plus(G H:Hp)(F:Addr→Prop):Hp:=λb=>open Classical in if F b then H b else G b
theorem fx{F:Addr→Prop}{b:Addr}(h:F b):plus G H F b=H b:=by unfold plus;rw [if_pos h]
theorem dZ{F:Addr→Prop}{b:Addr}(h:¬F b):plus G H F b=G b:=by unfold plus;rw [if_neg h]
theorem fN{F:Addr→Prop}(s:ak G H):ak (plus G H F) H:=λb o e=>by
 by_cases h:F b
 ·rw [fx h] at e;exact e
 ·rw [dZ h] at e;exact s _ _ e
theorem d8{F:Addr→Prop}(s:ak G H):ak G (plus G H F):=λb o e=>by
 by_cases h:F b
 ·rw [fx h];exact s _ _ e
 ·rw [dZ h];exact e
theorem cv.zL{t:bh}{P:D→Prop}{Q:VK}(S:cv Z B md ρ σ H G fp)(h:t ρ P)(hq:∀d,P d→∀v G' H',Ext B.G₀ B.H₀ G' H'→Dv Z G' v d→Q v H'):cC Z t σ H Q:=by
 let F:Addr→Prop:=λb=>∃i,b∈fp i
 have s:=S.ex.sub
 have x0:Ext B.G₀ B.H₀ (plus G H F) H:=⟨S.ex.gg.trans (d8 s),fN s,S.ex.hh,λb hb hg=>by
  rw [dZ (λ⟨i,hi⟩=>hb (S.nw i b hi).1)];exact S.ex.off b hb hg⟩
 refine ⟨plus G H F,ρ,P,fN s,⟨S.len,λi d h=>?_⟩,h,λd hd v G' H' x dv=>hq d hd v G' H' (x0.trans x) dv⟩;obtain ⟨v,hv,o⟩:=S.at_ i d h;exact ⟨v,hv,o.dv (d8 s) λb hb u e=>by rw [fx ⟨i,hb⟩];exact e⟩
end
structure kj where
 nx:DN→Prop
 rt:D→Prop
 bk:DN→Prop:=λ_=>False
 ct:DN→Prop:=λ_=>False
 xc:DN→D→Prop:=λ_ _=>False
abbrev gq:=kj→DN→Prop
structure Meets (Z:DC) (X:Cx) (B:Bs) (md:List Nat) (rn:Nat) (E:kj) (Dn:Ends):Prop where
 nx:∀ρ,E.nx ρ→∀σ H,SI Z B md ρ σ H→Dn.nx σ H
 rt:∀d,E.rt d→∀v f G' H',Ext B.G₀ B.H₀ G' H'→Own Z G' H' rn v d f→f.Nodup→(∀b∈f,B.H₀ b=none∧H' b≠none∧G' b=none)→Dn.rt v H'
 bk:∀ρ,E.bk ρ→∀σ H,SI Z B md ρ σ H→Dn.bk σ H
 ct:∀ρ,E.ct ρ→∀σ H,SI Z B md ρ σ H→Dn.ct σ H
 xc:∀ρ d,E.xc ρ d→∀σ H G fp a,cv Z B md ρ σ H G fp→Dv Z G (.ref a) d→uZ X σ H a
def oE(Z:DC)(X:Cx)(md:List Nat)(rn:Nat)(t:gq):TS:=λDn σ H=>∃(B:Bs)(ρ:DN)(E:kj),SI Z B md ρ σ H∧t E ρ∧Meets Z X B md rn E Dn
def m6(Z:DC)(X:Cx)(md:List Nat)(rn:Nat)(st:Stmt)(t:gq):Prop:=PS X st (oE Z X md rn t)
def iN(Z:DC)(X:Cx)(md:List Nat)(rn:Nat)(lg:List Stmt)(t:gq):Prop:=cz X lg (oE Z X md rn t)
theorem PS.imp{X:Cx}{st:Stmt}{t t':TS}(h:PS X st t)(f:∀D σ H,t' D σ H→t D σ H):PS X st t':=λpins s σ H D I q=>h pins s σ H D I (f _ _ _ q)
theorem cz.imp{X:Cx}{st:List Stmt}{t t':TS}(h:cz X st t)(f:∀D σ H,t' D σ H→t D σ H):cz X st t':=λpins s σ H D I q=>h pins s σ H D I (f _ _ _ q)
section
variable {Z:DC} {X:Cx} {md:List Nat} {rn:Nat} {st:Stmt} {lg:List Stmt} {t u:gq} {e:Expr} {te:bh} {pos:Pos}
def sC:gq:=λE ρ=>E.nx ρ
def vm(t u:gq):gq:=λE ρ=>t {E with nx:=u E} ρ
theorem nS:iN Z X md rn [] sC:=bu.imp λD σ H ⟨B,ρ,E,S,h,M⟩=>M.nx _ h _ _ S
theorem ix(h1:m6 Z X md rn st t)(h2:iN Z X md rn lg u):iN Z X md rn (st::lg) (vm t u):=
 (ah h1 h2).imp λD σ H ⟨B,ρ,E,S,h,M⟩=>⟨B,ρ,_,S,h,⟨λbS h' aA H' S'=>⟨B,bS,E,S',h',M⟩,M.rt,M.bk,M.ct,M.xc⟩⟩
theorem jx(h1:m6 Z X md rn st t):iN Z X md rn [st] t:=au h1
theorem kz:iN Z X md rn lg (λ_ _=>False):=kX.imp λD σ H ⟨B,ρ,E,S,h,M⟩=>h
def vk(te:bh):gq:=λE ρ=>te ρ E.rt
theorem lr(he:DE Z X e te):m6 Z X md 0 (.Return (some e) pos) (vk te):=(aX he).imp λD σ H ⟨B,ρ,E,⟨G,fp,S⟩,h,M⟩=>S.zL h λd hd v G' H' x dv=>M.rt d hd v [] G' H' x ⟨dv,rfl⟩ List.nodup_nil (λb hb=>by cases hb)
def vf(c:dD)(t u:gq):gq:=λE ρ=>c ρ λb=>if b=true then t E ρ else u E ρ
theorem sM{c:Expr}{a b:List Stmt}{tc:dD}(hc:DT Z X c tc)(ha:iN Z X md rn a t)(hb:iN Z X md rn b u):m6 Z X md rn (.If c a b pos) (vf tc t u):=by
 refine (cE hc ha hb).imp ?_;rintro D σ H ⟨B,ρ,E,⟨G,fp,S⟩,h,M⟩;refine S.zM h λb hb H' S'=>?_;cases b with
 |true=>exact eB ⟨B,ρ,E,⟨G,fp,S'⟩,(by simpa using hb),M⟩
 |false=>exact cL ⟨B,ρ,E,⟨G,fp,S'⟩,(by simpa using hb),M⟩
def vn(md:List Nat)(m:Bool)(i:Nat)(te:bh):gq:=λE ρ=>te (qZ md m ρ) λd=>lu m d∧E.nx (ρ.set i (some d))
theorem pY(m:Bool)(i:Nat){x:Str}{pos':Pos}(hN:X.N.Nodup)(he:DE Z X e te)(hm:md.getD i 0=0:=by rfl)(hi:X.N[i]? =some x:=by rfl)(hx:Loc X.env.scope x:=by first|exact Or.inl rfl|exact Or.inr rfl)(hs:swapsWith e (some (.Name x pos')) pos.line X.env=pure false:=by rfl)
  (hf:X.fn x=true∨X.env.scope.names.lookup x=some .local:=by first|exact .inl rfl|exact .inr rfl|assumption):m6 Z X md rn (.Assign [.Name x pos'] e pos) (vn md m i te):=by
 refine (aH hN hi hx he hs hf).imp ?_;rintro D σ H ⟨B,ρ,E,⟨G,fp,S⟩,h,M⟩;exact S.ev m h λd hd=>⟨hd.1,λv G' H' S' x dv=>M.nx _ hd.2 _ _ ⟨G',_,S'.yb hm dv⟩⟩
end
end L2
namespace L2
open PySem PySem.Spec PyProof.Rows
theorem gr:bootBuiltins "list"=some (.type "list"):=by decide+kernel
theorem iu:bootBuiltins "tuple"=some (.type "tuple"):=by decide+kernel
theorem iR:bootBuiltins "len"=some (.builtin "len"):=by decide+kernel
theorem l9:bootBuiltins "range"=some (.type "range"):=by decide+kernel
section
variable {P:Program} {w:World} {K:PySem.W.Frag} {mg:Str→Option Value} {base:Heap} {Z:DC}
def gn(N:List Str)(ds:List D):DN:=ds.map some++List.replicate (N.length-ds.length) none
def jM(Z:DC)(n:Nat)(sd:gp):Sp:=λvs H Q _=>∃(G:Hp)(ds:List D)(P:D→Prop),ak G H∧ao Z G vs ds∧sd ds P∧∀d,P d→∀v f G' H',Ext G H G' H'→Own Z G' H' n v d f→f.Nodup→(∀b∈f,H b=none∧H' b≠none∧G' b=none)→Q v H'
theorem Own.pure{n:Nat}{v:V}{d:D}{f:List Addr}{G H G' H':Hp}(x:Ext G H G' H')(o:Own Z G' H' n v d f)(nw:∀b∈f,H b=none∧H' b≠none∧G' b=none):∃G2,Ext G H G2 H'∧Dv Z G2 v d:=by
 refine ⟨plus G' H' λb=>b∈f,⟨x.gg.trans (d8 x.sub),fN x.sub,x.hh,λb hb hg=>?_⟩,o.dv (d8 x.sub) λb hb u e=>by rw [fx hb];exact e⟩
 rw [dZ (λz=>hb (nw b z).1)];exact x.off b hb hg
theorem D2{n:Nat}{sd:gp}:∀vs H Q E,gf Z sd vs H Q E→jM Z n sd vs H Q E:=by
 rintro vs H Q E ⟨G,ds,P,s,dv,h,q⟩;exact ⟨G,ds,P,s,dv,h,λd hd v f G' H' x o nd nw=>let ⟨G2,x2,kA⟩:=o.pure x nw;q d hd v G2 H' x2 kA⟩
theorem mj(rn:Nat){x qual:Str}{st:Stmt}{f:Addr}{fd:FuncData}{N ps:List Str}{k:Nat}{sd:gp}(F:df K x qual st f fd)(S:aE N ps (ag st))(md:List Nat)(tE:∀i,i<ps.length→md.getD i 0=0)(len:∀ds P,sd ds P→ds.length=ps.length)
  (eF:∀(cdv:Value)(A:Around)(outer:List Env)(s:Shared)(H:Hp)(E:XK)(ds:List D)(R:D→Prop),a8 k (A.deeper (envOfC qual (ag st) s.heap.objs.size f cdv))→sd ds R→
   ∃t,iN Z (eW bE P w K mg base N qual (ag st) f cdv A outer s H E).gd md rn (aw st) t∧t {nx:=λ_=>rn=0∧R .aC,rt:=R} (gn N ds)):FnOk P w K mg base bE (k+1) f fd ps (jM Z rn sd):=by
 refine F.ok S (λvs H Q E h=>?_) (λcdv A outer s H vs Q E hr h=>?_)
 ·obtain ⟨G,ds,R,s,dv,h,q⟩:=h
  rw [dv.length];exact len _ _ h
 obtain ⟨G,ds,R,s0,dv,h,q⟩:=h;have wK:=q;obtain ⟨t,ht,hq⟩:=eF cdv A outer s H E ds R hr h;have hl:=len _ _ h;refine ⟨_,ht,⟨G,H,G⟩,_,_,⟨G,λ_=> [],?_⟩,hq,⟨λρ wO aA H' ⟨G',fp,S'⟩=>q _ wO.2 _ [] G' H' S'.ex (by rw [wO.1];exact ⟨.aC,rfl⟩) List.nodup_nil (λb hb=>by cases hb),wK,λ_ z=>z.elim,λ_ z=>z.elim,λ_ _ z=>z.elim⟩⟩
 refine ⟨.refl s0, .refl _,by unfold gn start;simp [dv.length],λi d hi=>?_,λ_=>List.nodup_nil,(λ_ _ _ _ z=>by cases z),(λ_ _ z=>by cases z)⟩
 unfold gn at hi
 have wu:i<ds.length:=by
  apply Classical.byContradiction;intro z;rw [List.getElem?_append_right (by simpa using iK z),List.getElem?_replicate] at hi
  split at hi<;>cases hi
 rw [pM (by simpa using wu),fY] at hi
 have eY:ds[i]? =some d:=by
  cases z:ds[i]? with
  |none=>rw [z] at hi;cases hi
  |some d'=>rw [z] at hi;cases hi;rfl
 obtain ⟨v,hv,sN⟩:=dv.get eY;refine ⟨v,?_,by rw [tE i (by omega)];exact ⟨sN,rfl⟩⟩
 unfold start;rw [pM (by simpa [dv.length] using wu),fY,hv];rfl
theorem jA{x qual:Str}{st:Stmt}{f:Addr}{fd:FuncData}{N ps:List Str}{k:Nat}{sd:gp}(F:df K x qual st f fd)(S:aE N ps (ag st))(md:List Nat)(tE:∀i,i<ps.length→md.getD i 0=0)(len:∀ds P,sd ds P→ds.length=ps.length)
  (eF:∀(cdv:Value)(A:Around)(outer:List Env)(s:Shared)(H:Hp)(E:XK)(ds:List D)(R:D→Prop),a8 k (A.deeper (envOfC qual (ag st) s.heap.objs.size f cdv))→sd ds R→
   ∃t,iN Z (eW bE P w K mg base N qual (ag st) f cdv A outer s H E).gd md 0 (aw st) t∧t {nx:=λ_=>0=0∧R .aC,rt:=R} (gn N ds)):FnOk P w K mg base bE (k+1) f fd ps (gf Z sd):=
 (mj 0 F S md tE len λcdv A outer s H E ds R hr h=>let ⟨t,a,b⟩:=eF cdv A outer s H E ds R hr h;⟨t,a,b⟩).imp D2
end
section
variable {Z:DC} {X:Cx} {a b c e o:Expr} {ta tb te:bh} {t:fC} {es:List Expr} {pos apos:Pos}
end
theorem qm{c:Bool}{A B:Prop}(h1:c=true→A)(h2:c=false→B):if c=true then A else B:=by
 cases c with
 |true=>exact eB (h1 rfl)
 |false=>exact cL (h2 rfl)
def uR(K:PySem.W.Frag)(a:Addr)(n:Nat):It:=
 ⟨λi H=>i<n∧∃xs,ay K H a xs∧xs.length=n,λi H x H'=>H'=H∧∀xs,ay K H a xs→xs[n-1-i]? =some x,λi H=>n≤i⟩
theorem mU{P:Program}{w:World}{K:PySem.W.Frag}{tg:Expr}(a it:Addr)(n:Nat):Turn P w K tg (uR K a n) [it] it (λi h=>i≤n∧h.IsRevIter it a ((n:Int)-1-(i:Int))) where
 mem:=by simp
 obj:=λi h st b hb=>by
  have e:b=it:=by simpa using hb
  subst e;obtain ⟨_,o,e,c,d⟩:=st;exact ⟨o,e,λv z=>by rw [d] at z;cases z⟩
 keep:=λi h h' st k=>⟨st.1,st.2.at λo e=>k it (by simp) o e⟩
 item:=by
  intro X hP hw hK hc i pins s σ H E I hf st hg;subst hP hw hK;obtain ⟨hi,xs,hq,hl⟩:=hg;obtain ⟨its,rv,p,hz⟩:=I.list hq;have hlen:=rv.length;have hx:xs[n-1-i]? =some (xs[n-1-i]'(by omega)):=fX (by omega)
  obtain ⟨u,hu,ru⟩:=rv.get hx;obtain ⟨f0,f1,f2,f3,f4,f5⟩:=hf it (by simp)
  have e:(n:Int)-1-(i:Int)=((n-1-i:Nat):Int):=by omega
  obtain ⟨_,st⟩:=st;rw [e] at st;refine wpAny_pyNext_rev_item st p.isList (x:=u) (by simpa using hu) λh' je sb=>?_
  have I1:Inv X pins σ H {s with heap:=h'}:=I.turned (t':=s.toks) (λb o hb e=>(sb.2 b hb).trans e) f0 f1 f3 f4 f5
  have e2:((n-1-i:Nat):Int)-1=(n:Int)-1-((i+1:Nat):Int):=by omega
  rw [e2] at je;obtain ⟨o,e,c,d⟩:=id je;exact ⟨u,rfl,kE (s:={s with heap:=h'}) e c d (by decide) ⟨_,H,I1,ru,⟨rfl,λys hy=>by rw [I.fJ hy hq];exact hx⟩,⟨hi,je⟩,λb hb=>(hf b hb).1⟩⟩
 done:=by
  intro X hP hw hK hc i pins s σ H E I hf st hg;subst hP hw hK;obtain ⟨hi,st⟩:=st;have hg:n≤i:=hg;have e:(n:Int)-1-(i:Int)= -1:=by omega
  rw [e] at st;obtain ⟨f0,f1,f2,f3,f4,f5⟩:=hf it (by simp)
  exact wpAny_pyNext_rev_end (I.ok.hd hc) st λh' eb=>⟨rfl,I.turned (t':=s.toks) (λb o hb e=>eb b o hb e) f0 f1 f3 f4 f5⟩
 self:=λ_ _ _ _ _ st h=>wpAny_pyIter_revIter st.2 h
theorem iS:bootBuiltins "reversed"=some (.type "reversed"):=by decide+kernel
section
variable {Z:DC} {X:Cx} {a b c e:Expr} {ta tb te:bh} {t:fC} {pos:Pos}
def wQ(K:PySem.W.Frag)(ta:TA):TI:=λσ H R=>ta σ H λvs H1=>∃a xs,vs= [.ref a]∧ay K H1 a xs∧R (uR K a xs.length) H1
theorem qG{tg:Expr}{ta:TA}{p:Pos}(hg:Gl X "reversed")(hm:X.mg "reversed"=none)(ha:PA X [a] ta)(hs:starEach [a] X.env= [(false,eval a X.env)]:=by rfl):
  PI X tg (.Call (.Name "reversed" p) [a] [] pos) (wQ X.K ta):=by
 intro pins s σ H R I h;refine Call_ (dW I hg hm iS (PyProof.Rows.callWith_type1 (thn (ha pos pins s σ H _ I h) λus s1 ⟨vs,H1,I1,r1,q1⟩=>?_) hs rfl));obtain ⟨l,xs,e,hl,q⟩:=q1;subst e;obtain ⟨u,rfl,ru⟩:=r1.one;cases ru;obtain ⟨its,rv,p,hz⟩:=I1.list hl;have hlen:=rv.length;refine call_reversed_list p.isList ?_;have hit:(s1.heap.push (revObj l ((its.toArray.size:Int)-1))).IsRevIter s1.heap.objs.size l ((xs.length:Int)-1-((0:Nat):Int)):=⟨_,Heap.get?_push_size _ rfl,rfl,by simp [revObj,hlen]⟩
 refine wpAny_pyIter_revIter hit ?_;refine ⟨s1.heap.objs.size,[s1.heap.objs.size],_,_,H1,rfl,I1.kept (t':=s1.toks) λb o e=>Heap.get?_push_of_some _ e,mU l _ xs.length,⟨Nat.zero_le _,hit⟩,λb hb=>?_,q⟩;have e:b=s1.heap.objs.size:=by simpa using hb
 subst e;exact I1.lx (bx _) (I1.hok.fresh (bx _))
variable {md:List Nat} {rn:Nat} {k:Expr} {tk:bh}
variable {apos eU:Pos}
variable {es:List Expr}
end
section
variable {Z:DC} {X:Cx} {md:List Nat} {rn:Nat} {e:Expr} {te:bh} {pos:Pos}
end
theorem iX{g:iO}{tt:dD}{te:bh}{α:Type}(I:DN→Prop)(enc:α→D)(p:α→Bool)(f:α→D):∀(ys:List α)(bS:DN)(acc:List D)(N:DN→List D→Prop),(∀y∈ys,∀bS,I bS→∀(Y:DN→D→Prop)(Nn:DN→Prop),(∀cf,I cf→p y=true→Y cf (f y))→(∀cf,I cf→p y=false→Nn cf)→g (enc y) bS λcf=>tt cf λb=>if b=true then te cf (Y cf) else Nn cf)→
  I bS→acc.length+ys.length≤sizeLine→(∀bS,I bS→N bS (acc++(ys.filter p).map f))→ig g tt te (ys.map enc) bS acc N
 | [],bS,acc,N,_,hI,_,h=>by
  show N bS acc;simpa using h bS hI
 |y::ys,bS,acc,N,hs,hI,hz,h=>by
  rw [fP] at hz;refine hs y (de ..) bS hI (λcf d=>acc.length<sizeLine∧ig g tt te (ys.map enc) cf (acc++ [d]) N) (λcf=>ig g tt te (ys.map enc) cf acc N) (λcf h1 hp=>⟨by omega,?_⟩) (λcf h1 hp=>?_)
  ·refine iX I enc p f ys _ (acc++ [f y]) N (λz hz=>hs z (dB _ hz)) h1 (by simp;omega) λpN h2=>?_
   have:=h pN h2
   rw [List.filter_cons,hp] at this;simpa using this
  ·refine iX I enc p f ys _ acc N (λz hz=>hs z (dB _ hz)) h1 (by omega) λpN h2=>?_
   have:=h pN h2
   rw [List.filter_cons,hp] at this;simpa using this
section
variable {X:Cx} {Z:DC} {pins:List (Addr×Obj)} {σ:St} {H:Hp} {s:Shared}
open Classical in
open Classical in
end
section
variable {X:Cx} {Z:DC}
theorem kq:CallR X (.type "range") (λxs H Q=>∃i:Int,xs= [.int i]∧∀q,H q=none→Q (.ref q) (upd H q (.rng 0 i))):=by
 intro pins s σ H xs us Q I rv h;obtain ⟨i,rfl,q⟩:=h;obtain ⟨u1,rfl,⟨t1,rfl⟩⟩:=rv.one;refine call_range_1 ?_;exact ⟨.ref s.heap.objs.size,_,I.laid (λb o hb=>Heap.get?_push_of_some _ hb) (bx _) (o:= .rng 0 i) ⟨_,_,_,Heap.get?_push_size _ rfl⟩,rfl,q _ (I.hok.fresh (bx _))⟩
def sv:gp:=λds P=>∃i:Int,ds= [.int i]∧P (.rng 0 i)
theorem nD:CallR X (.type "range") (dI Z sv):=by
 refine kq.imp ?_;rintro xs H Q ⟨G,ds,P,s,dv,⟨i,rfl,hp⟩,q⟩;obtain ⟨v,rfl,a⟩:=dv.ofOne;refine ⟨i,by rw [a.ofInt],λp hn=>q _ hp _ _ _ (.new s hn) (.rng ae)⟩
def pS:gp:=λds P=>∃i j:Int,ds= [.rng i j]∧(-(2^62)≤i∧i<2^62∧-(2^62)≤j∧j<2^62∧(j-i).toNat≤1000)∧P (.lst (fz i (j-i).toNat))
theorem k8{G:Hp}(i:Int)(n:Nat):ao Z G (dn i n) (fz i n):=by
 unfold dn fz
 induction List.range n with
 |nil=>exact .nil
 |cons k l ih=>exact .cons (.int _) ih
theorem mf(hc:X.calm=true):CallR X (.type "list") (dI Z pS):=by
 refine (gx hc).imp ?_;rintro xs H Q ⟨G,ds,P,s,dv,⟨i,j,rfl,⟨b1,b2,b3,b4,b5⟩,hp⟩,q⟩;obtain ⟨v,rfl,a⟩:=dv.ofOne;cases a with
 |rng h=>exact ⟨_,i,j,rfl,s _ _ h,b1,b2,b3,b4,b5,λp hn=>q _ hp _ _ _ (.new s hn) (.lst ae (k8 i _))⟩
end
section
variable {Z:DC} {X:Cx} {e:Expr} {es:List Expr} {t:fC} {pos:Pos}
theorem y8{scope:Scope}(sc:Scope)(e:X.env.scope=sc:=by rfl)(k:scope.kind= .function:=by rfl)(a:∀x∈scope.names,x.2= .local→scope.names.lookup x.1=some .local:=by decide+kernel)(b:∀x∈scope.names,x.2≠ .cell:=by decide+kernel)
  (c:∀x∈scope.names,x.2= .free→sc.names.lookup x.1=some .cell∨sc.names.lookup x.1=some .free:=by decide+kernel):aR X scope:=aR.of sc e k a b c
end
section
variable {K:PySem.W.Frag} {h:Heap} {mg:Str→Option Value}
end
section
variable {Z:DC} {X:Cx} {md:List Nat} {rn:Nat} {st:Stmt} {t:fC} {e:Expr} {es:List Expr} {k j:Nat} {x qual:Str} {ps:List Str} {p pos eU:Pos}
end
section
variable {Z:DC} {X:Cx} {a:Expr} {ta:bh} {p p1 p2 p3 p4 pos:Pos}
def nestD:D→Bool
 | .lst _=>true
 | .tup _=>true
 |_=>false
theorem mv{K:PySem.W.Frag}{H:Hp}{v:V}{d:D}(hd:fk d=true)(h:Dv Z H v d):∃t,bD K H v t∧PySem.W.kitOne K t (.type "dict")=some false:=by
 cases h with
 |aC=>exact ⟨_, .aC,by kernel_rfl⟩
 |bl b=>exact ⟨_, .bl b,by kernel_rfl⟩
 |int b=>exact ⟨_, .int b,by kernel_rfl⟩
 |str b=>exact ⟨_, .str b,by kernel_rfl⟩
 |lst h a=>exact ⟨_, .lst h,by kernel_rfl⟩
 |tup h a=>exact ⟨_, .tup h,by kernel_rfl⟩
 |_=>cases hd
theorem mw{K:PySem.W.Frag}{H:Hp}{v:V}{d:D}(hd:fk d=true)(h:Dv Z H v d):∃t,bD K H v t∧PySem.W.kitAny K t [.type "list", .type "tuple", .type "dict"]=some (nestD d):=by
 cases h with
 |aC=>exact ⟨_, .aC,by kernel_rfl⟩
 |bl b=>exact ⟨_, .bl b,by kernel_rfl⟩
 |int b=>exact ⟨_, .int b,by kernel_rfl⟩
 |str b=>exact ⟨_, .str b,by kernel_rfl⟩
 |lst h a=>exact ⟨_, .lst h,by kernel_rfl⟩
 |tup h a=>exact ⟨_, .tup h,by kernel_rfl⟩
 |_=>cases hd
def nG(t:bh):bh:=λρ P=>t ρ λd=>fk d=true∧P (.bl false)
theorem gz(ha:DE Z X a ta)(hg:Gl X "isinstance")(hm:X.mg "isinstance"=none)(Ab:Gl X "dict")(Ah:X.mg "dict"=none)(hs:starEach [a, .Name "dict" p1] X.env=(false,eval a X.env)::starEach [.Name "dict" p1] X.env:=by rfl)
  (dy:(backTo pos (starEach [.Name "dict" p1] X.env)).any (·.1)=false:=by rfl) (om:starEach [.Name "dict" p1] X.env=(false,eval (.Name "dict" p1) X.env)::starEach [] X.env:=by rfl):
  DE Z X (.Call (.Name "isinstance" p) [a, .Name "dict" p1] [] pos) (nG ta):=by
 have hb:PE X (.Name "dict" p1) (tC (.ty "dict")):=bP Ab Ah (by decide+kernel) rfl (by decide) (by decide)
 refine (ax cx hg hm (by decide+kernel) (U ha (U hb aa om) hs) (by decide) (by decide) hs dy).imp ?_
 rintro σ H Q ⟨G,ρ,P,s,e,h,q⟩;refine ⟨G,ρ,_,s,e,h,?_⟩;rintro d ⟨hk,hp⟩ v G1 H1 x1 dv;obtain ⟨t,ht,n0⟩:=mv (K:=X.K) (H:=H1) hk (dv.mono x1.sub);exact ⟨v,"dict",t,_,rfl,ht,n0,q _ hp _ G1 H1 x1 (.bl _)⟩
def nH(t:bh):bh:=λρ P=>t ρ λd=>fk d=true∧P (.bl (nestD d))
theorem ky{n:Nat}(ha:DE Z X a ta)(hg:Gl X "isinstance")(hm:X.mg "isinstance"=none)(m1:X.mg "list"=none)(m2:X.mg "tuple"=none)(m3:X.mg "dict"=none)(g1:Gl X "list":=by rfl)(g2:Gl X "tuple":=by rfl)(g3:Gl X "dict":=by rfl)
  (hs:starEach [a, .Tuple [.Name "list" p1, .Name "tuple" p2, .Name "dict" p3] n p4] X.env=(false,eval a X.env)::starEach [.Tuple [.Name "list" p1, .Name "tuple" p2, .Name "dict" p3] n p4] X.env:=by rfl)
  (dy:(backTo pos (starEach [.Tuple [.Name "list" p1, .Name "tuple" p2, .Name "dict" p3] n p4] X.env)).any (·.1)=false:=by rfl)
  (om:starEach [.Tuple [.Name "list" p1, .Name "tuple" p2, .Name "dict" p3] n p4] X.env=(false,eval (.Tuple [.Name "list" p1, .Name "tuple" p2, .Name "dict" p3] n p4) X.env)::starEach [] X.env:=by rfl)
  (h1:starEach [.Name "list" p1, .Name "tuple" p2, .Name "dict" p3] X.env=(false,eval (.Name "list" p1) X.env)::starEach [.Name "tuple" p2, .Name "dict" p3] X.env:=by rfl) (h2:starEach [.Name "tuple" p2, .Name "dict" p3] X.env=(false,eval (.Name "tuple" p2) X.env)::starEach [.Name "dict" p3] X.env:=by rfl)
  (h3:starEach [.Name "dict" p3] X.env=(false,eval (.Name "dict" p3) X.env)::starEach [] X.env:=by rfl):
  DE Z X (.Call (.Name "isinstance" p) [a, .Tuple [.Name "list" p1, .Name "tuple" p2, .Name "dict" p3] n p4] [] pos) (nH ta):=by
 have b1:PE X (.Name "list" p1) (tC (.ty "list")):=bP g1 m1 (by decide+kernel) rfl (by decide) (by decide)
 have b2:PE X (.Name "tuple" p2) (tC (.ty "tuple")):=bP g2 m2 (by decide+kernel) rfl (by decide) (by decide)
 have b3:PE X (.Name "dict" p3) (tC (.ty "dict")):=bP g3 m3 (by decide+kernel) rfl (by decide) (by decide)
 refine (ax hV hg hm (by decide+kernel) (U ha (U (aV (U b1 (U b2 (U b3 aa h3) h2) h1)) aa om) hs) (by decide) (by decide) hs dy).imp ?_
 rintro σ H Q ⟨G,ρ,P,s,e,h,q⟩;refine ⟨G,ρ,_,s,e,h,?_⟩;rintro d ⟨hk,hp⟩ v G1 H1 x1 dv;refine ⟨by show 3≤sizeLine;decide,λtp ht=>?_⟩
 have x2:=x1.trans (.new (o:= .tup [V.ty "list", .ty "tuple", .ty "dict"]) x1.sub ht);obtain ⟨t,oo,n0⟩:=mw (K:=X.K) (H:=upd H1 tp (.tup [V.ty "list", .ty "tuple", .ty "dict"])) hk (dv.mono (x1.sub.trans (aq ht _)));exact ⟨v,tp,["list","tuple","dict"],t,_,rfl,oo,ae,n0,q _ hp _ _ _ x2 (.bl _)⟩
end
end L2
namespace dg
open PySem L2
def top(i:Nat):Stmt:=PySem.Challenge.pw_mapdye_k18_refusals_made.main.body.getD i (.Pass ⟨0,0,0,0⟩)
abbrev gP:Stmt:=top 2
abbrev jZ:Stmt:=top 3
abbrev dO:Stmt:=top 4
abbrev dN:Stmt:=top 21
abbrev fV:Stmt:=top 22
abbrev cR:Stmt:=top 23
abbrev cQ:Stmt:=top 24
abbrev cS:Stmt:=top 25
abbrev dP:Stmt:=top 26
abbrev bL:Stmt:=top 27
def qO(K:PySem.W.Frag):Sp:=λvs H Q _=>∃(a:Addr)(ns:List Int)(k:Int),vs= [.ref a, .int k]∧ay K H a (ns.map V.int)∧ns.length≤63∧0≤k∧k≤100∧∀(v:Int)(H':Hp),ak H H'→Q (.int v) H'
section
variable {P:Program} {w:World} {K:PySem.W.Frag} {mg:Str→Option Value} {base:Heap}
theorem qL:aE ["_law_script","_law_k"] ["_law_script","_law_k"] (ag dN):=⟨rfl,rfl,rfl,by decide+kernel,rfl,by decide+kernel,by decide+kernel⟩
theorem oQ(D:cW K mg "_law_cell" dN ["_law_script","_law_k"]):FnOk P w K mg base bE 1 D.f D.fd ["_law_script","_law_k"] (qO K):=by
 refine D.F.ok qL (λvs H Q E h=>?_) (λcdv A outer s H vs Q E hr h=>?_)
 ·obtain ⟨a,ns,k,rfl,_⟩:=h
  rfl
 obtain ⟨a,ns,k,rfl,hS,qb,h0,h1,q⟩:=h;refine ⟨_,au (aX (aG aB (aD dk (mK pb (pv 0) (jX (pv 1)) (jX (aD bX (pv 1) ai))) (bg (U ai aa))) ai (λ_ _=>rfl))),?_⟩;refine ⟨_,rfl,_,rfl,k,rfl,_,rfl,_,_,rfl,rfl,_,rfl,a,_,rfl,hS,λp hp=>?_⟩;refine ⟨by show 1≤sizeLine;decide,λp2 oi=>?_⟩
 have ne:p≠p2:=aj (ae (H:=H) (a:=p)) oi;have hlen:=eV (ns.map V.int) (some k) (some (k+1));rw [dQ] at hlen;refine ⟨p,p2,_,_,rfl,rfl,by rw [af ne];exact ae,ae,small (by show _+1≤1000;omega),λp3 tG=>?_⟩
 have sm:ak H (upd (upd (upd H p (.lst (eu (ns.map V.int) (some k) (some (k+1))))) p2 (.lst [.int 0])) p3 (.lst (eu (ns.map V.int) (some k) (some (k+1))++ [.int 0]))):=
  (aq hp _).trans ((aq oi _).trans (aq tG _))
 have hint:∃v:Int,dh (eu (ns.map V.int) (some k) (some (k+1))++ [V.int 0]) 0=some (.int v):=by
  have:∀x∈eu (ns.map V.int) (some k) (some (k+1))++ [V.int 0],∃v,x=V.int v:=λx hx=>by
   rcases List.mem_append.mp hx with z|z
   ·unfold eu at z
    obtain ⟨v,_,rfl⟩:=List.mem_map.mp (List.mem_of_mem_drop (List.mem_of_mem_take z));exact ⟨v,rfl⟩
   ·exact ⟨0,by simpa using z⟩
  cases e:eu (ns.map V.int) (some k) (some (k+1))++ [V.int 0] with
  |nil=>simp at e
  |cons x r=>
   obtain ⟨v,rfl⟩:=this x (by rw [e];exact de)
   exact ⟨v,az (j:=0) rfl⟩
 obtain ⟨v,hv⟩:=hint;exact ⟨p3,_,0, .int v,rfl,rfl,ay.of ae,hv,q v _ sm⟩
def ue:Sp:=λvs H Q _=>∃(c m:Int),vs= [.int c, .int m]∧2≤m∧m≤100∧∀(p:Addr)(i j:Int)(H':Hp),ak H H'→H' p=some (.tup [.int i, .int j])→Q (.ref p) H'
theorem o4:aE ["_law_cell_here","_law_many","_law_least"] ["_law_cell_here","_law_many"] (ag fV):=⟨rfl,rfl,rfl,by decide+kernel,rfl,by decide+kernel,by decide+kernel⟩
theorem qE(D:cW K mg "_law_two" fV ["_law_cell_here","_law_many"]):FnOk P w K mg base bE 1 D.f D.fd ["_law_cell_here","_law_many"] ue:=by
 refine D.F.ok o4 (λvs H Q E h=>?_) (λcdv A outer s H vs Q E hr h=>?_)
 ·obtain ⟨a,m,rfl,_⟩:=h
  rfl
 obtain ⟨c,m,rfl,h2,Et,q⟩:=h;have nd:=o4.nd
 refine ⟨_,ah (aH (i:=2) nd rfl (Or.inl rfl) (aD bO (pv 0) (aD fq (pv 1) ai)))
  (au (aX (aV (U (pv 2) (U (aD bX (aD bX (pv 2) ai) (aD bO (aD fo (pv 0) (aD fq (pv 1) ai)) (aD fq (aD fq (pv 1) ai) (pv 2)))) aa))))),?_⟩
 have l0:0≤c%(m-1):=Int.emod_nonneg _ (by omega)
 have l1:c%(m-1)<m-1:=Int.emod_lt_of_pos _ (by omega)
 refine ⟨_,rfl,_,rfl,_,_,rfl,rfl,_,_,rfl,rfl,by omega,?_⟩
 refine ⟨_,rfl,_,rfl,_,_,rfl,rfl,_,rfl,_,rfl,_,_,rfl,rfl,_,_,rfl,rfl,⟨by omega,by omega⟩,?_⟩
 refine ⟨_,rfl,_,_,rfl,rfl,_,rfl,_,_,rfl,rfl,_,_,rfl,rfl,by omega,_,_,rfl,rfl,?_⟩
 refine ⟨by show 2≤sizeLine;decide,λp hp=>q p _ _ _ (aq hp _) ae⟩
def pd:Sp:=λvs H Q _=>∃(c:Int),vs= [.int c]∧∀(p:Addr)(i j k:Int)(H':Hp),ak H H'→H' p=some (.tup [.int i, .int j, .int k])→Q (.ref p) H'
theorem j0:aE ["_law_cell_here","_law_first","_law_last"] ["_law_cell_here"] (ag cQ):=⟨rfl,rfl,rfl,by decide+kernel,rfl,by decide+kernel,by decide+kernel⟩
theorem mF(D:cW K mg "_law_count" cQ ["_law_cell_here"]):FnOk P w K mg base bE 1 D.f D.fd ["_law_cell_here"] pd:=by
 refine D.F.ok j0 (λvs H Q E h=>?_) (λcdv A outer s H vs Q E hr h=>?_)
 ·obtain ⟨a,rfl,_⟩:=h
  rfl
 obtain ⟨c,rfl,q⟩:=h;have nd:=j0.nd
 refine ⟨_,ah (aH (i:=1) nd rfl (Or.inl rfl) (aD bX ai (aD bO (pv 0) ai)))
  (ah (aH (i:=2) nd rfl (Or.inl rfl) (aD bX ai (aD bO (aD fo (pv 0) ai) ai)))
  (au (aX (aV (U (pv 1) (U (aD bX (aD fq (aD bX (pv 1) (pv 2)) ai) (aD bO (aD fo (pv 0) ai) ai)) (U (pv 2) aa))))))),?_⟩
 refine ⟨_,rfl,_,_,rfl,rfl,(by show (0:Int)<14;decide),_,_,rfl,rfl,?_⟩
 refine ⟨_,rfl,_,_,rfl,rfl,⟨by decide,by decide⟩,_,_,rfl,rfl,(by show (0:Int)<24;decide),_,_,rfl,rfl,?_⟩
 refine ⟨_,rfl,_,rfl,_,rfl,_,_,rfl,rfl,_,_,rfl,rfl,_,rfl,_,_,rfl,rfl,⟨by decide,by decide⟩,_,_,rfl,rfl,(by show (0:Int)<30;decide),_,_,rfl,rfl,_,rfl,?_⟩
 refine ⟨by show 3≤sizeLine;decide,λp hp=>q p _ _ _ _ (aq hp _) ae⟩
def pe(K:PySem.W.Frag):Sp:=λvs H Q _=>∃(c:Int)(t:Addr)(i j:Int),vs= [.int c, .ref t]∧H t=some (.tup [.int i, .int j])∧∀(p:Addr)(x:Str)(a b:Int)(H':Hp),PyData.strOk x=true→ak H H'→H' p=some (.tup [.str x, .int a, .int b])→Q (.ref p) H'
theorem j1:aE ["_law_cell_here","_law_two_here","_law_p","_law_q","_law_way"] ["_law_cell_here","_law_two_here"] (ag cR):=⟨rfl,rfl,rfl,by decide+kernel,rfl,by decide+kernel,by decide+kernel⟩
theorem mG(D:cW K mg "_law_fault" cR ["_law_cell_here","_law_two_here"]):FnOk P w K mg base bE 1 D.f D.fd ["_law_cell_here","_law_two_here"] (pe K):=by
 refine D.F.ok j1 (λvs H Q E h=>?_) (λcdv A outer s H vs Q E hr h=>?_)
 ·obtain ⟨a,t,i,j,rfl,_⟩:=h
  rfl
 obtain ⟨c,t,i,j,rfl,ht,q⟩:=h;have nd:=j1.nd
 refine ⟨_,ah (gj (pv 1) (dY rfl (aQ (aJ (i:=2) nd rfl (Or.inl rfl)) (aQ (aJ (i:=3) nd rfl (Or.inl rfl)) dc))))
  (ah (aH (i:=4) nd rfl (Or.inl rfl) (aD bO (pv 0) ai))
  (ah (cE (bY eM (pv 4) ai (bG _)) (au (aX (aV (U bj (U (pv 2) (U (aD bX ai (aD bO (aD fo (pv 0) ai) ai)) aa)))))) bu)
  (ah (cE (bY eM (pv 4) ai (bG _)) (au (aX (aV (U bj (U (pv 2) (U (pv 2) aa)))))) bu)
  (ah (cE (bY eM (pv 4) ai (bG _)) (au (aX (aV (U bj (U (pv 2) (U (pv 3) aa)))))) bu)
  (ah (cE (bY eM (pv 4) ai (bG _)) (au (aX (aV (U bj (U (pv 3) (U (pv 2) aa)))))) bu)
  (au (aX (aV (U bj (U ai (U (pv 3) aa))))))))))),?_⟩
 refine ⟨_,rfl,t,_,rfl,bF.of ht,rfl,_,_,rfl,_,_,rfl,rfl,?_⟩;refine ⟨_,rfl,_,_,rfl,rfl,(by show (0:Int)<5;decide),?_⟩
 refine ⟨_,rfl,rfl,_,rfl,lA (λ_=>?_) (λ_=>?_)⟩
 ·refine ⟨_,rfl,_,rfl,_,_,rfl,rfl,⟨by decide,by decide⟩,_,_,rfl,rfl,(by show (0:Int)<1000;decide),_,_,rfl,rfl,?_⟩
  exact ⟨by show 3≤sizeLine;decide,λp hp=>q p _ _ _ _ (by decide+kernel) (aq hp _) ae⟩
 refine ⟨_,rfl,rfl,_,rfl,lA (λ_=>?_) (λ_=>?_)⟩
 ·refine ⟨_,rfl,_,rfl,?_⟩
  exact ⟨by show 3≤sizeLine;decide,λp hp=>q p _ _ _ _ (by decide+kernel) (aq hp _) ae⟩
 refine ⟨_,rfl,rfl,_,rfl,lA (λ_=>?_) (λ_=>?_)⟩
 ·refine ⟨_,rfl,_,rfl,?_⟩
  exact ⟨by show 3≤sizeLine;decide,λp hp=>q p _ _ _ _ (by decide+kernel) (aq hp _) ae⟩
 refine ⟨_,rfl,rfl,_,rfl,lA (λ_=>?_) (λ_=>?_)⟩
 ·refine ⟨_,rfl,_,rfl,?_⟩
  exact ⟨by show 3≤sizeLine;decide,λp hp=>q p _ _ _ _ (by decide+kernel) (aq hp _) ae⟩
 refine ⟨_,rfl,?_⟩;exact ⟨by show 3≤sizeLine;decide,λp hp=>q p _ _ _ _ (by decide+kernel) (aq hp _) ae⟩
end
theorem boot_isinstance:bootBuiltins "isinstance"=some (.builtin "isinstance"):=by decide+kernel
theorem boot_bool:bootBuiltins "bool"=some (.type "bool"):=by decide+kernel
theorem ju:bootBuiltins "ValueError"=some (.type "ValueError"):=by decide+kernel
theorem boot_all:bootBuiltins "all"=some (.builtin "all"):=by decide+kernel
structure jl (mg:Str→Option Value):Prop where
 range:mg "range"=none
 enumerate:mg "enumerate"=none
 all:mg "all"=none
 isinstance:mg "isinstance"=none
 bool:mg "bool"=none
 list:mg "list"=none
 tuple:mg "tuple"=none
 dict:mg "dict"=none
 ve:mg "ValueError"=none
 len:mg "len"=none
 reversed:mg "reversed"=none
theorem ic{K:PySem.W.Frag}:PySem.W.kitOne K (.type "int") (.type "bool")=some false:=by kernel_rfl
theorem ie{K:PySem.W.Frag}:PySem.W.kitOne K (.type "tuple") (.type "bool")=some false:=by kernel_rfl
section
variable {P:Program} {w:World} {K:PySem.W.Frag} {mg:Str→Option Value} {base:Heap}
def qQ(K:PySem.W.Frag):Sp:=λvs H Q _=>∃(x y:V)(d:PyData)(t:Value)(b:Bool),vs= [x,y]∧Dp K H x d∧Dp K H y d∧d.depth≤64∧PyData.eqv d d=true∧bD K H x t∧bD K H y t∧PySem.W.kitOne K t (.type "bool")=some b∧Q (.bl true) H
theorem qN:aE ["_law_found","_law_due"] ["_law_found","_law_due"] (ag dP):=⟨rfl,rfl,rfl,by decide+kernel,rfl,by decide+kernel,by decide+kernel⟩
theorem oR(B:jl mg)(D:cW K mg "_law_same" dP ["_law_found","_law_due"]):FnOk P w K mg base bE 1 D.f D.fd ["_law_found","_law_due"] (qQ K):=by
 refine D.F.ok qN (λvs H Q E h=>?_) (λcdv A outer s H vs Q E hr h=>?_)
 ·obtain ⟨x,y,d,t,b,rfl,_⟩:=h
  rfl
 obtain ⟨x,y,d,t,b,rfl,hx,hy,hd,he,tx,ty,kb,q⟩:=h
 refine ⟨_,au (aX (lI (fu (qF hr.units) (pv 0) (pv 1) (bG _)) (lJ (fu eM
  (ax cx rfl B.isinstance boot_isinstance (U (pv 0) (U (bP rfl B.bool boot_bool (v:= .ty "bool") rfl) aa)))
  (ax cx rfl B.isinstance boot_isinstance (U (pv 1) (U (bP rfl B.bool boot_bool (v:= .ty "bool") rfl) aa))) (bG _))))),?_⟩
 refine ⟨_,rfl,_,rfl,d,d,hx,hy,hd,_,rfl,?_⟩;rw [he];refine eB ?_;refine ⟨_,rfl,x,"bool",t,b,rfl,tx,kb,_,rfl,y,"bool",t,b,rfl,ty,kb,rfl,?_⟩;show Q (.bl (decide (V.bl b=V.bl b))) H;rw [decide_eq_true rfl];exact q
inductive Sc:V→Value→Prop where
 |str (x:Str) (h:PyData.strOk x=true):Sc (.str x) (.type "str")
 |int (i:Int):Sc (.int i) (.type "int")
end
theorem ly{i:Nat}{x:V}{σ:St}{H:Hp}{P R:St→Hp→Prop}(h:P (σ.set i (some x)) H):kD i x σ H (λcy H4=>pF cy H4 (λb H5=>if b=true then P cy H5 else R cy H5)):=by
 show (if true=true then P (σ.set i (some x)) H else R (σ.set i (some x)) H);rw [if_pos rfl];exact h
abbrev bU:Stmt:=gP
abbrev iH:Stmt:=jZ
abbrev iG:Stmt:=dO
theorem cU:aE ["holder","places"] ["holder"] (ag bU):=⟨rfl,rfl,rfl,by decide+kernel,rfl,by decide+kernel,by decide+kernel⟩
theorem gR:aE ["held","left"] ["held","left"] (ag iH):=⟨rfl,rfl,rfl,by decide+kernel,rfl,by decide+kernel,by decide+kernel⟩
theorem gQ:aE ["thing","top","holders","tuples","left","at","holder","places","place","held","own"] ["thing"] (ag iG):=⟨rfl,rfl,rfl,by decide+kernel,rfl,by decide+kernel,by decide+kernel⟩
structure pO (Z:DC) (mg:Str→Option Value) where
 B:jl mg
 d_nested_places:cW Z.K mg "nested_places" bU ["holder"]
 d_own_of:cW Z.K mg "own_of" iH ["held","left"]
 d_copied:cW Z.K mg "copied" iG ["thing"]
 c_MOST_COPIED:∃t:Tok,mg "MOST_COPIED"=some (.int 1000000 t)
section
open Wb
variable {P:Program} {w:World} {mg:Str→Option Value} {base:Heap} {Z:DC} (T:pO Z mg)
def qP:gp:=λds P=>∃(l:List D),ds= [.lst l]∧l.length≤100∧(∀d∈l,fk d=true)∧P (.lst (((List.range l.length).filter λj=>nestD (l.getD j .aC)).map λ(j:Nat)=>iD j))
theorem fm:FnOk P w Z.K mg base bE 1 T.d_nested_places.f T.d_nested_places.fd ["holder"] (gf Z qP):=by
 have nd:=cU.nd;refine jA T.d_nested_places.F cU [0,0] (by decide) (λds R h=>by obtain ⟨_,rfl,_⟩:=h;rfl) (λcdv A outer s H E ds R hr h=>?_)
 have hu:=hr.units
 refine ⟨_,(ix (pY false 1 nd (nJ (iU (gz (bV 0) rfl T.B.isinstance rfl T.B.dict)) (di jv rfl T.B.list gr (dF (bV 0) dU)) (di (mf rfl) rfl T.B.list gr (dF (di nD rfl T.B.range l9 (dF (mi pT rfl T.B.len iR (dF (bV 0) dU)) dU)) dU))))
   (jx (lr (sF (NC:= ["place","holder"]) (src:= [none,some 0]) rfl (y8 (ag bU)) ⟨rfl,rfl,trivial⟩ (nQ (bV 1)) (λ_ _ _=>(nP 0 (show (["place","holder"]:List Str).Nodup from by decide+kernel))) (λ_ _ _=>(nT (iU (ky (sE (bV 1) (bV 0)) rfl T.B.isinstance T.B.list T.B.tuple T.B.dict)))) (λ_ _ _=>(bV 0)))))),?_⟩
 obtain ⟨l,rfl,h1,h2,q⟩:=h;refine ⟨_,rfl,rfl,rfl,cL ?_⟩;refine ⟨_,rfl,(l.length:Int),rfl,0,(l.length:Int),rfl,⟨by decide,by decide,by omega,by omega,by omega⟩,trivial,?_⟩
 refine ⟨_,rfl,?_⟩;rw [show fz 0 ((l.length:Int)-0).toNat=(List.range l.length).map λ(j:Nat)=>iD j from by rw [show ((l.length:Int)-0).toNat=l.length by omega];unfold fz iD;simp]
 refine iX (λρ=>∃o,ρ= [o,some (.lst l)]) _ (λj=>nestD (l.getD j .aC)) (λj=>iD j) (List.range l.length) _ [] _ (λy hy bS hI Y Nn hY hN=>?_) ⟨none,rfl⟩ (by rw [List.length_nil,Nat.zero_add,List.length_range];exact small (by omega)) λbS _=>?_
 ·obtain ⟨o,rfl⟩:=hI
  have hy:=ki.mp hy;have ei:l[y]? =some l[y]:=fX hy;have eg:l.getD y .aC=l[y]:=by rw [kf,ei];rfl
  refine ⟨_,rfl,_,rfl,l[y],?_,h2 _ (List.getElem_mem hy),rfl,qm (λe=>⟨_,rfl,hY _ ⟨_,rfl⟩ (by rw [eg];exact e)⟩) (λe=>hN _ ⟨_,rfl⟩ (by rw [eg];exact e))⟩
  unfold dh;rw [show fH l.length (y:Int)=some y by unfold fH;rw [if_pos (by omega),if_pos (by omega)];exact congrArg some (by omega)]
  exact ei
 ·rw [List.nil_append];exact q
def ud:gp:=λds P=>∃(l:List D)(n:Int),ds= [.tup l, .int n]∧0<n∧P (.lst l)
theorem kU:FnOk P w Z.K mg base bE 1 T.d_own_of.f T.d_own_of.fd ["held","left"] (gf Z ud):=by
 have nd:=gR.nd;refine jA T.d_own_of.F gR [0,0] (by decide) (λds R h=>by obtain ⟨_,_,rfl,_⟩:=h;rfl) (λcdv A outer s H E ds R hr h=>?_)
 have hu:=hr.units
 refine ⟨_,(ix (sM (iU (gz (bV 0) rfl T.B.isinstance rfl T.B.dict)) kz nS)
   (jx (lr (nJ (pZ t5 (bV 1) pU (bG _)) (di jv rfl T.B.list gr (dF (bV 0) dU)) (pV dU))))),?_⟩
 obtain ⟨l,n,rfl,h0,q⟩:=h;refine ⟨_,rfl,rfl,rfl,cL ?_⟩;refine ⟨_,rfl,true,?_,eB ⟨_,rfl,q⟩⟩;exact congrArg D.bl (decide_eq_true h0)
theorem lp{α:Type}(x:α)(l:List α):dh (x::l) (0:Int)=some x:=by
 unfold dh;rw [show fH (x::l).length (0:Int)=some 0 by unfold fH;rw [if_pos (by decide),if_pos (by rw [fP];omega)];rfl]
 rfl
def yg(Z:DC):Sp:=λvs H Q _=>∃(a:Addr)(l:List V)(ds:List D),vs= [.ref a]∧H a=some (.tup l)∧ao Z H l ds∧(∀d∈ds,fk d=true∧nestD d=false)∧1≤ds.length∧ds.length≤50∧∀b zs H',H b=none→ak H H'→H' b=some (.tup zs)→ao Z H' zs ds→Q (.ref b) H'
theorem kC(ds:List D)(h:∀d∈ds,nestD d=false):((List.range ds.length).filter λj=>nestD (ds.getD j .aC))= []:=by
 rw [List.filter_eq_nil_iff];intro j hj;have hj:=ki.mp hj;rw [kf,fX hj];show ¬nestD ds[j]=true;rw [h _ (List.getElem_mem hj)];decide
theorem bC{H H':Hp}{b:Addr}{o:HO}(s:ak H H')(hb:H b=none):ak H (upd H' b o):=λc u e=>by rw [af (aj e hb)];exact s _ _ e
theorem _root_.L2.ao.iV{Z:DC}{G G':Hp}:∀{vs:List V}{ds:List D},ao Z G vs ds→(∀d∈ds,fk d=true∧nestD d=false)→ao Z G' vs ds
 |_,_, .nil,_=> .nil
 |_,_, .cons a as,h=> .cons (by
   obtain ⟨f1,f2⟩:=h _ (de ..);cases a with
   |aC=>exact .aC
   |bl b=>exact .bl b
   |int i=>exact .int i
   |str x k=>exact .str x k
   |lst _ _=>exact Bool.noConfusion f2
   |tup _ _=>exact Bool.noConfusion f2
   |_=>exact Bool.noConfusion f1) (L2.ao.iV as λd hd=>h d (dB _ hd))
theorem kT:FnOk P w Z.K mg base bE 2 T.d_copied.f T.d_copied.fd ["thing"] (yg Z):=by
 have nd:=gQ.nd;refine T.d_copied.F.ok gQ (λvs H Q E h=>?_) (λcdv A outer s H vs Q E hr h=>?_)
 ·obtain ⟨a,l,ds,rfl,_⟩:=h;rfl
 obtain ⟨a,l,ds,rfl,ha,dv,fl,wF,EK,q⟩:=h;obtain ⟨tk,Ai⟩:=T.c_MOST_COPIED
 refine ⟨_,(ah (aH (i:=1) nd rfl (Or.inl rfl) (bg (U (pv 0) aa)))
  (ah (aH (i:=2) nd rfl (Or.inl rfl) (bg (U (pv 1) aa)))
  (ah (aH (i:=3) nd rfl (Or.inl rfl) (bg aa))
  (ah (aH (i:=4) nd rfl (Or.inl rfl) (aP rfl Ai (v:= .int 1000000) ⟨tk,rfl⟩))
  (ah (aH (i:=5) nd rfl (Or.inl rfl) ai)
  (ah (mM PassesOwn.never (bY t7 (pv 5) (ax cX rfl T.B.len iR (U (pv 2) aa)) (bG _)) (ah (aH (i:=6) nd rfl (Or.inl rfl) (aG aB (pv 2) (pv 5) (λ_ _=>rfl)))
  (ah (aH (i:=7) nd rfl (Or.inl rfl) (a9 (fm T) (hr.mono (by decide)) rfl T.d_nested_places.m T.d_nested_places.F.kp T.d_nested_places.b .nil aY (U (pv 6) aa)))
  (ah (gm PassesOwn.never rfl (gM (pv 7)) (aJ (i:=8) nd rfl (Or.inl rfl)) (ah (aH (i:=9) nd rfl (Or.inl rfl) (aG aB (pv 6) (pv 8) (λ_ _=>rfl)))
  (ah (aH (i:=10) nd rfl (Or.inl rfl) (a9 (kU T) (hr.mono (by decide)) rfl T.d_own_of.m T.d_own_of.F.kp T.d_own_of.b .nil aY (U (pv 9) (U (pv 4) aa))))
  (ah (lM (i:=4) nd rfl (Or.inl rfl) (aD bX ai (ax cX rfl T.B.len iR (U (pv 10) aa))) ql)
  (ah (gj (pv 10) (lL (pv 6) (pv 8) set_list))
  (ah (bq (oS PySem.F.plainAttrs_list PySem.F.slot_list_append PySem.F.type_list_append eJ (pv 2) (U (pv 10) aa)))
  (au (cE (d9 (ax cx rfl T.B.isinstance (by decide+kernel) (U (pv 9) (U (bP rfl T.B.tuple iu (v:= .ty "tuple") rfl) aa)))) (au (bq (oS PySem.F.plainAttrs_list PySem.F.slot_list_append PySem.F.type_list_append eJ (pv 3) (U (aV (U (pv 6) (U (pv 8) aa))) aa)))) bu))))))))
  (au (lM (i:=5) nd rfl (Or.inl rfl) ai qk))))))
  (ah (gm PassesOwn.never rfl (qG rfl T.B.reversed (U (pv 3) aa)) (dY rfl (aQ (aJ (i:=6) nd rfl (Or.inl rfl)) (aQ (aJ (i:=8) nd rfl (Or.inl rfl)) dc))) (au (gj (gL gy rfl T.B.tuple iu (U (aG aB (pv 6) (pv 8) (λ_ _=>rfl)) aa)) (lL (pv 6) (pv 8) set_list))))
  (au (aX (aG aB (pv 1) ai (λ_ _=>rfl))))))))))),?_⟩
 refine ⟨_,rfl,by show 1≤sizeLine;decide,λl1 e1=>?_⟩
 refine ⟨_,rfl,by show 1≤sizeLine;decide,λl2 e2=>?_⟩
 refine ⟨by show 0≤sizeLine;decide,λl3 e3=>?_⟩
 have oG:l2≠l1:=λz=>by rw [z,ae] at e2;cases e2
 have gB:H l2=none:=by rw [af oG] at e2;exact e2
 have qx:l3≠l2:=λz=>by rw [z,ae] at e3;cases e3
 have p0:upd H l1 (.lst [.ref a]) l3=none:=by rw [af qx] at e3;exact e3
 have qw:l3≠l1:=λz=>by rw [z,ae] at p0;cases p0
 have rp:H l3=none:=by rw [af qw] at p0;exact p0
 refine (?_:r9 (lQ _ _) _ _ _ _)
 refine ⟨λm σ H1=>ak H H1∧
   ((m=2∧σ= [some (.ref a),some (.ref l1),some (.ref l2),some (.ref l3),some (.int 1000000),some (.int 0),none,none,none,none,none]∧H1 l1=some (.lst [.ref a])∧H1 l2=some (.lst [.ref l1])∧H1 l3=some (.lst []))∨
    (∃(k:Nat)(n:Int)(l5 t1:Addr)(zs:List V)(o6 o7 o8 o9 oK:Option V),m=2-k∧1≤k∧k≤2∧σ= [some (.ref a),some (.ref l1),some (.ref l2),some (.ref l3),some (.int n),some (.int k),o6,o7,o8,o9,oK]∧H1 l1=some (.lst [.ref l5])∧H1 l2=some (.lst [.ref l1, .ref l5])∧H1 l3=some (.lst [.ref t1])∧H1 t1=some (.tup [.ref l1, .int 0])∧H1 l5=some (.lst zs)∧ao Z H1 zs ds)),⟨2,?_⟩,?_⟩
 ·refine ⟨bC (bC (bC (.refl _) e1) gB) rp, .inl ⟨rfl,rfl,?_,?_,ae⟩⟩
  ·rw [af qw.symm,af oG.symm,ae]
  ·rw [af qx.symm,ae]
 have oJ:∀{G:Hp}{x:Addr}{xs:List V},¬ao Z G (.ref x::xs) ds:=λ {G x xs} z=>by
  cases ds with
  |nil=>cases z
  |cons d ds=>
   cases z with
   |cons y _=>
    obtain ⟨f1,f2⟩:=fl d (de ..);cases y<;>first|exact Bool.noConfusion f1|exact Bool.noConfusion f2
 rintro m σ H1 ⟨sH,⟨rfl,rfl,h1,h2,h3⟩ | ⟨k,n,l5,t1,zs,o6,o7,o8,o9,oK,rfl,k1,k2,rfl,h1,h2,h3,h4,h5,h6⟩⟩
 ·
  refine ⟨_,rfl,_,rfl,l2,[.ref l1],rfl, .inl (ay.of h2),?_⟩;refine ⟨_,_,rfl,rfl,_,rfl,eB ⟨_,λ_ _ z=>z,?_⟩⟩;refine ⟨_,rfl,_,rfl,l2,[.ref l1],0, .ref l1,rfl,rfl,ay.of h2,lp _ _,?_⟩;refine ⟨_,rfl,?_⟩;refine ⟨H1,[.lst [.tup ds]],λd=>d= .lst [iD 0], .refl _, .cons (.lst h1 (.cons (.tup (sH _ _ ha) (dv.mono sH)) .nil)) .nil,⟨[.tup ds],rfl,by show 1≤100;decide,λd hd=>by rw [List.mem_singleton.mp hd];rfl,rfl⟩,λd hd v G2 H2 x2 kA=>?_⟩
  subst hd;obtain ⟨l4,Er,rfl,g4,y4⟩:=kA.fM;obtain ⟨v4,rfl,z4⟩:=y4.ofOne;obtain rfl:=z4.ofInt;have h4:=x2.sub _ _ g4;have s2:=x2.hh
  refine ⟨_,rfl,l4,rfl,⟨_,ay.of h4⟩,iz (xs:= [.int 0]) (λi σ H3=>ak H H3∧H3 l4=some (.lst [.int 0])∧
   ((i=0∧σ= [some (.ref a),some (.ref l1),some (.ref l2),some (.ref l3),some (.int 1000000),some (.int 0),some (.ref l1),some (.ref l4),none,none,none]∧H3 l1=some (.lst [.ref a])∧H3 l2=some (.lst [.ref l1])∧H3 l3=some (.lst []))∨
    (i=1∧∃(n:Int)(l5 t1:Addr)(zs:List V)(o6 o7 o8 o9 oK:Option V),σ= [some (.ref a),some (.ref l1),some (.ref l2),some (.ref l3),some (.int n),some (.int 0),o6,o7,o8,o9,oK]∧H3 l1=some (.lst [.ref l5])∧H3 l2=some (.lst [.ref l1, .ref l5])∧H3 l3=some (.lst [.ref t1])∧H3 t1=some (.tup [.ref l1, .int 0])∧H3 l5=some (.lst zs)∧ao Z H3 zs ds))) ⟨sH.trans s2,h4, .inl ⟨rfl,rfl,s2 _ _ h1,s2 _ _ h2,s2 _ _ h3⟩⟩ (λi σ H3 _ z=>ay.of z.2.1) ?_ ?_⟩
  ·rintro i x σ H3 hx ⟨mP,k4,⟨rfl,rfl,k1,k2,k3⟩ | ⟨rfl,_⟩⟩
   ·cases hx
    refine ⟨_,rfl,_,rfl,l1,[.ref a],0, .ref a,rfl,rfl,ay.of k1,lp _ _,?_⟩;refine ⟨_,rfl,_,rfl,?_⟩;refine ⟨H3,[.tup ds, .int 1000000],λd=>d= .lst ds, .refl _, .cons (.tup (mP _ _ ha) (dv.mono mP)) (.cons (.int _) .nil),⟨ds,1000000,rfl,by decide,rfl⟩,λd hd v G4 H4 x4 zq=>?_⟩
    subst hd;obtain ⟨l5,zs,rfl,g5,y5⟩:=zq.fM;have k5:=x4.sub _ _ g5;have y5:=y5.mono x4.sub;have s4:=x4.hh;have xw:l5≠l1:=λz=>by rw [z,s4 _ _ k1] at k5;cases k5;exact oJ y5
    have xx:l5≠l2:=λz=>by rw [z,s4 _ _ k2] at k5;cases k5;exact oJ y5
    have Cm:l5≠l3:=λz=>by
     rw [z,s4 _ _ k3] at k5;cases k5
     have:=y5.length
     rw [List.length_nil] at this;omega
    have xu:l4≠l1:=λz=>by rw [z,k1] at k4;cases k4
    have xv:l4≠l2:=λz=>by rw [z,k2] at k4;cases k4
    have Ck:l4≠l3:=λz=>by rw [z,k3] at k4;cases k4
    refine ⟨_,rfl,?_⟩;refine ⟨_,rfl,l5,zs,rfl, .inl (ay.of k5),_,_,rfl,rfl,_,_,rfl,rfl,?_⟩;refine ⟨_,rfl,_,rfl,_,rfl,l1,[.ref a],0,0,rfl,rfl,s4 _ _ k1,rfl,?_⟩;have m2:upd H4 l1 (.lst [.ref l5]) l2=some (.lst [.ref l1]):=by rw [af oG];exact s4 _ _ k2
    refine ⟨_,rfl, .inl ⟨rfl,_,ay.of m2⟩,_,rfl,l2,[.ref l1], .ref l5,rfl,rfl,m2,by show 1<sizeLine;decide,?_⟩
    have a6:upd (upd H4 l1 (.lst [.ref l5])) l2 (.lst [.ref l1, .ref l5]) a=some (.tup l):=by
     rw [af (aj ha gB),af (aj ha e1)];exact s4 _ _ (mP _ _ ha)
    have d6:ak H (upd (upd H4 l1 (.lst [.ref l5])) l2 (.lst [.ref l1, .ref l5])):=bC (bC (mP.trans s4) e1) gB;obtain ⟨ty,ht,hk⟩:=qs (Z:=Z) (K:=Z.K) (n:="tuple") (d:= .tup ds) rfl rfl (.tup a6 (dv.mono d6));refine ⟨_,rfl, .ref a,"tuple",ty,_,rfl,ht,hk,_,rfl,eB ?_⟩;have m3:upd (upd H4 l1 (.lst [.ref l5])) l2 (.lst [.ref l1, .ref l5]) l3=some (.lst []):=by rw [af qx,af qw];exact s4 _ _ k3
    refine ⟨_,rfl, .inl ⟨rfl,_,ay.of m3⟩,_,rfl,_,rfl,by show 2≤sizeLine;decide,λt1 fF=>?_⟩
    have fF:upd (upd H4 l1 (.lst [.ref l5])) l2 (.lst [.ref l1, .ref l5]) t1=none:=fF;have xJ:t1≠l3:=λz=>by rw [z,m3] at fF;cases fF
    have CN:t1≠l2:=λz=>by rw [z,ae] at fF;cases fF
    have CM:t1≠l1:=λz=>by rw [z,af oG.symm,ae] at fF;cases fF
    have CP:t1≠l5:=λz=>by rw [z,af xx,af xw,k5] at fF;cases fF
    have CO:t1≠l4:=λz=>by rw [z,af xv,af xu,s4 _ _ k4] at fF;cases fF
    have tH:H t1=none:=d6.free fF;refine ⟨l3,[], .ref t1,rfl,rfl,by rw [af xJ.symm];exact m3,by show 0<sizeLine;decide,?_⟩
    refine ⟨bC (bC d6 tH) rp,?_, .inr ⟨rfl,_,l5,t1,zs,_,_,_,_,_,rfl,?_,?_,ae,?_,?_,?_⟩⟩
    ·rw [af Ck,af CO.symm,af xv,af xu];exact s4 _ _ k4
    ·rw [af qw.symm,af CM.symm,af oG.symm,ae];rfl
    ·rw [af qx.symm,af CN.symm,ae];rfl
    ·rw [af xJ,ae]
    ·rw [af Cm,af CP.symm,af xx,af xw];exact k5
    ·exact y5.iV fl
   ·cases hx
  ·rintro σ H3 ⟨mP,k4,⟨z,_⟩ | ⟨_,n,l5,t1,zs,o6,o7,o8,o9,oK,rfl,k1,k2,k3,k5,k6,k7⟩⟩
   ·cases z
   ·exact ⟨_,rfl,_,_,rfl,rfl,1,by decide,mP, .inr ⟨1,n,l5,t1,zs,_,_,_,_,_,rfl,by decide,by decide,rfl,k1,k2,k3,k5,k6,k7⟩⟩
 ·have zt:Dv Z H1 (.ref l5) (.lst ds):= .lst h5 h6
  refine ⟨_,rfl,_,rfl,l2,[.ref l1, .ref l5],rfl, .inl (ay.of h2),?_⟩;refine ⟨_,_,rfl,rfl,_,rfl,?_⟩
  rcases (by omega:k=1∨k=2) with rfl|rfl
  ·refine eB ⟨_,λ_ _ z=>z,?_⟩
   refine ⟨_,rfl,_,rfl,l2,[.ref l1, .ref l5],1, .ref l5,rfl,rfl,ay.of h2,rfl,?_⟩;refine ⟨_,rfl,?_⟩;refine ⟨H1,[.lst ds],λd=>d= .lst [], .refl _, .cons zt .nil,⟨ds,rfl,by omega,λd hd=>(fl d hd).1,by rw [kC ds λd hd=>(fl d hd).2];rfl⟩,λd hd v G2 H2 x2 kA=>?_⟩
   subst hd;obtain ⟨l4,Er,rfl,g4,y4⟩:=kA.fM;obtain rfl:=y4.oM;have g4:=x2.sub _ _ g4;have s2:=x2.hh;refine ⟨_,rfl,l4,rfl,⟨_,ay.of g4⟩,iz (xs:= []) (λi σ H3=>H3=H2∧σ=_) ⟨rfl,rfl⟩ (λi σ H3 _ z=>by rw [z.1];exact ay.of g4) (λi x σ H3 hx _=>by cases hx) ?_⟩
   rintro σ H3 ⟨rfl,rfl⟩;exact ⟨_,rfl,_,_,rfl,rfl,0,by decide,sH.trans s2, .inr ⟨2,n,l5,t1,zs,_,_,_,_,_,rfl,by decide,by decide,rfl,s2 _ _ h1,s2 _ _ h2,s2 _ _ h3,s2 _ _ h4,s2 _ _ h5,h6.mono s2⟩⟩
  ·refine cL ?_
   refine ⟨_,rfl,l3,[.ref t1],rfl,ay.of h3,?_⟩;refine ⟨λi m σ H'=>(i=0∧m=1∧σ=_∧H'=H1)∨(i=1∧m=0∧∃b,σ[1]? =some (some (.ref l1))∧H' l1=some (.lst [.ref b])∧H b=none∧ak H H'∧H' b=some (.tup zs)∧ao Z H' zs ds),⟨1, .inl ⟨rfl,rfl,rfl,rfl⟩⟩,?_⟩;rintro i m σ H' (⟨rfl,rfl,rfl,rfl⟩ | ⟨rfl,rfl,b,q1,q2,q3,q4,q5,q6⟩)
   ·refine .inr ⟨⟨by show 0<1;decide,_,ay.of h3,rfl⟩,λaA hU=>∃b,aA[1]? =some (some (.ref l1))∧hU l1=some (.lst [.ref b])∧H b=none∧ak H hU∧hU b=some (.tup zs)∧ao Z hU zs ds,λaA hU z=>⟨0,by decide, .inr ⟨rfl,rfl,z⟩⟩,?_⟩
    rintro x hU ⟨rfl,hx⟩;have hx:=hx _ (ay.of h3);cases hx;refine ⟨t1,[.ref l1, .int 0],rfl,bF.of h4,rfl,?_⟩;refine ⟨_,_,rfl,_,_,rfl,rfl,?_⟩;refine ⟨_,rfl,_,rfl,l1,[.ref l5],0, .ref l5,rfl,rfl,ay.of h1,lp _ _,l5,zs,rfl, .inl ⟨ay.of h5,λb hb=>?_⟩⟩;have xy:b≠l1:=λz=>by rw [z,h1] at hb;cases hb
    refine ⟨_,rfl,_,rfl,l1,[.ref l5],0,0,rfl,rfl,by rw [af xy.symm];exact h1,rfl,?_⟩
    refine ⟨b,rfl,ae,sH.free hb,bC (bC sH (sH.free hb)) e1,by rw [af xy,ae],h6.iV fl⟩
   ·refine .inl ⟨bx _,?_⟩
    exact ⟨_,q1,l1,[.ref b],0, .ref b,rfl,rfl,ay.of q2,lp _ _,q b zs H' q3 q4 q5 q6⟩
def qM:V→D
 | .int i=> .int i
 | .str x=> .str x
 |_=> .aC
theorem lO{H:Hp}:∀(xs:List V),(∀x∈xs,∃t,Sc x t)→ao Z H xs (xs.map qM)
 | [],_=> .nil
 |x::xs,h=> .cons (by
   obtain ⟨t,s⟩:=h x (de ..);cases s with
   |str x k=>exact .str x k
   |int i=>exact .int i) (lO xs λy hy=>h y (dB _ hy))
theorem o5(xs:List V)(h:∀x∈xs,∃t,Sc x t):∀d∈xs.map qM,fk d=true∧nestD d=false:=λd hd=>by
 obtain ⟨x,hx,rfl⟩:=List.mem_map.mp hd;obtain ⟨t,s⟩:=h x hx;cases s<;>exact ⟨rfl,rfl⟩
theorem j5{H:Hp}:∀(xs zs:List V),(∀x∈xs,∃t,Sc x t)→ao Z H zs (xs.map qM)→zs=xs
 | [],zs,_,d=>by cases d;rfl
 |x::xs,zs,h,d=>by
   cases d with
   |cons a as=>
    rw [j5 xs _ (λy hy=>h y (dB _ hy)) as];obtain ⟨t,s⟩:=h x (de ..);cases s with
    |str x k=>cases a;rfl
    |int i=>cases a;rfl
def yf:Sp:=λvs H Q _=>∃(p:Addr)(xs:List V),vs= [.ref p]∧H p=some (.tup xs)∧(∀x∈xs,∃t,Sc x t)∧xs.length=3∧
 ∀(r:Addr)(H':Hp),ak H H'→H r=none→H' r=some (.tup xs)→Q (.ref r) H'
theorem jU:FnOk P w Z.K mg base bE 2 T.d_copied.f T.d_copied.fd ["thing"] yf:=
 (kT T).imp λvs H Q E h=>by
  obtain ⟨p,xs,rfl,hp,hs,h3,q⟩:=h;exact ⟨p,xs,xs.map qM,rfl,hp,lO xs hs,o5 xs hs,by rw [dQ];omega,by rw [dQ];omega,λb zs H' hb s qc dz=>q b H' s hb (by rw [←j5 xs zs hs dz];exact qc)⟩
end
structure Base (K:PySem.W.Frag) (mg:Str→Option Value) (M:Addr):Prop where
 m:mg "MapError"=some (.ref M)
 sg:PySem.W.specialIn K (.ref M) "__getattribute__"=some (some (.builtin "type.__getattribute__"))
 rd:PySem.W.readsIn K M (.type "type")=true
 fc:PySem.W.findCls K (.ref M) (.type "type") "__init__"=some (.val (.builtin "ValueError.__init__"))
structure Ec (K:PySem.W.Frag) (C:Addr):Prop where
 xc:cZ K C
 xo:nr K C
def gW(C:Addr)(f:Str):Sp:=λvs H Q _=>∃(a:Addr)(y:V),vs= [.ref a,y]∧H a=some (cw C a none)∧∀H',(∀b o,H b=some o→b≠a→H' b=some o)→bN H' C a [(f,y)]→Q .aC H'
def pf(C:Addr)(f g:Str):Sp:=λvs H Q _=>∃(a:Addr)(y z:V),vs= [.ref a,y,z]∧H a=some (cw C a none)∧∀H',(∀b o,H b=some o→b≠a→H' b=some o)→bN H' C a [(f,y),(g,z)]→Q .aC H'
def r4(C:Addr):Sp:=λvs H Q _=>∃(a t:Addr)(xs:List V),vs= [.ref a, .ref t]∧H a=some (cw C a none)∧H t=some (.tup xs)∧(∀x∈xs,∃t,Sc x t)∧xs.length=3∧
 ∀(r:Addr)(H':Hp),(∀b o,H b=some o→b≠a→H' b=some o)→bN H' C a [("fault", .ref r)]→H' r=some (.tup xs)→Q .aC H'
theorem dq{H:Hp}{C a:Addr}{f:Str}{y:V}{Q:Hp→Prop}(e:H a=some (cw C a none))(q:∀dx H',H dx=none→(∀b o,H b=some o→b≠a→H' b=some o)→H' a=some (cw C a (some dx))→H' dx=some (jq dx [(f,y)])→Q H'):nv H C a f y [] Q:=
 .inl ⟨rfl,e,λdx fE=>q dx _ fE (λb o eb ne=>by rw [af (aj eb fE),af ne];exact eb) (by rw [af (aj e fE),ae]) ae⟩
section
variable {P:Program} {w:World} {K:PySem.W.Frag} {mg:Str→Option Value} {base:Heap}
abbrev bw:Stmt:=inClass (top 9) 0
theorem j4:aE ["self","counted"] ["self","counted"] (ag bw):=⟨rfl,rfl,rfl,by decide+kernel,rfl,by decide+kernel,by decide+kernel⟩
theorem iZ{M C f:Addr}{fd:FuncData}(T:Base K mg M)(e:Ec K C)(na:av K C "counted")(F:df K "__init__" "NotPlane.__init__" bw f fd):FnOk P w K mg base bE 1 f fd ["self","counted"] (gW C "counted"):=by
 refine F.ok j4 (λvs H Q E h=>?_) (λcdv A outer s H vs Q E hr h=>?_)
 ·obtain ⟨a,y,rfl,_⟩:=h
  rfl
 obtain ⟨a,y,rfl,ha,q⟩:=h;refine ⟨_,ah (bq (bA rfl T.m T.sg T.rd T.fc (U (pv 0) (U bj aa)))) (au (br (pv 0) (pv 1) rfl)),?_⟩;refine ⟨_,rfl,a,C,none,_,rfl,ha,e.xo,?_⟩;exact ⟨_,rfl,_,rfl,a,C,[],rfl,e.xc,na,dq ha λdx H' _ k h1 h2=>q H' k (.with h1 h2)⟩
abbrev cc:Stmt:=inClass (top 14) 0
theorem mS:aE ["self","point"] ["self","point"] (ag cc):=⟨rfl,rfl,rfl,by decide+kernel,rfl,by decide+kernel,by decide+kernel⟩
theorem kS{M C f:Addr}{fd:FuncData}(T:Base K mg M)(e:Ec K C)(na:av K C "point")(F:df K "__init__" "TooFew.__init__" cc f fd):FnOk P w K mg base bE 1 f fd ["self","point"] (gW C "point"):=by
 refine F.ok mS (λvs H Q E h=>?_) (λcdv A outer s H vs Q E hr h=>?_)
 ·obtain ⟨a,y,rfl,_⟩:=h
  rfl
 obtain ⟨a,y,rfl,ha,q⟩:=h;refine ⟨_,ah (bq (bA rfl T.m T.sg T.rd T.fc (U (pv 0) (U bj aa)))) (au (br (pv 0) (pv 1) rfl)),?_⟩;refine ⟨_,rfl,a,C,none,_,rfl,ha,e.xo,?_⟩;exact ⟨_,rfl,_,rfl,a,C,[],rfl,e.xc,na,dq ha λdx H' _ k h1 h2=>q H' k (.with h1 h2)⟩
abbrev bM:Stmt:=inClass (top 15) 0
theorem la:aE ["self","point"] ["self","point"] (ag bM):=⟨rfl,rfl,rfl,by decide+kernel,rfl,by decide+kernel,by decide+kernel⟩
theorem jT{M C f:Addr}{fd:FuncData}(T:Base K mg M)(e:Ec K C)(na:av K C "point")(F:df K "__init__" "NotFree.__init__" bM f fd):FnOk P w K mg base bE 1 f fd ["self","point"] (gW C "point"):=by
 refine F.ok la (λvs H Q E h=>?_) (λcdv A outer s H vs Q E hr h=>?_)
 ·obtain ⟨a,y,rfl,_⟩:=h
  rfl
 obtain ⟨a,y,rfl,ha,q⟩:=h;refine ⟨_,ah (bq (bA rfl T.m T.sg T.rd T.fc (U (pv 0) (U bj aa)))) (au (br (pv 0) (pv 1) rfl)),?_⟩;refine ⟨_,rfl,a,C,none,_,rfl,ha,e.xo,?_⟩;exact ⟨_,rfl,_,rfl,a,C,[],rfl,e.xc,na,dq ha λdx H' _ k h1 h2=>q H' k (.with h1 h2)⟩
abbrev ba:Stmt:=inClass (top 16) 0
theorem jc:aE ["self","land"] ["self","land"] (ag ba):=⟨rfl,rfl,rfl,by decide+kernel,rfl,by decide+kernel,by decide+kernel⟩
theorem ij{M C f:Addr}{fd:FuncData}(T:Base K mg M)(e:Ec K C)(na:av K C "land")(F:df K "__init__" "NotFilled.__init__" ba f fd):FnOk P w K mg base bE 1 f fd ["self","land"] (gW C "land"):=by
 refine F.ok jc (λvs H Q E h=>?_) (λcdv A outer s H vs Q E hr h=>?_)
 ·obtain ⟨a,y,rfl,_⟩:=h
  rfl
 obtain ⟨a,y,rfl,ha,q⟩:=h;refine ⟨_,ah (bq (bA rfl T.m T.sg T.rd T.fc (U (pv 0) (U bj aa)))) (au (br (pv 0) (pv 1) rfl)),?_⟩;refine ⟨_,rfl,a,C,none,_,rfl,ha,e.xo,?_⟩;exact ⟨_,rfl,_,rfl,a,C,[],rfl,e.xc,na,dq ha λdx H' _ k h1 h2=>q H' k (.with h1 h2)⟩
abbrev fU:Stmt:=inClass (top 17) 0
theorem ub:aE ["self","point"] ["self","point"] (ag fU):=⟨rfl,rfl,rfl,by decide+kernel,rfl,by decide+kernel,by decide+kernel⟩
theorem qC{M C f:Addr}{fd:FuncData}(T:Base K mg M)(e:Ec K C)(na:av K C "point")(F:df K "__init__" "Odd.__init__" fU f fd):FnOk P w K mg base bE 1 f fd ["self","point"] (gW C "point"):=by
 refine F.ok ub (λvs H Q E h=>?_) (λcdv A outer s H vs Q E hr h=>?_)
 ·obtain ⟨a,y,rfl,_⟩:=h
  rfl
 obtain ⟨a,y,rfl,ha,q⟩:=h;refine ⟨_,ah (bq (bA rfl T.m T.sg T.rd T.fc (U (pv 0) (U bj aa)))) (au (br (pv 0) (pv 1) rfl)),?_⟩;refine ⟨_,rfl,a,C,none,_,rfl,ha,e.xo,?_⟩;exact ⟨_,rfl,_,rfl,a,C,[],rfl,e.xc,na,dq ha λdx H' _ k h1 h2=>q H' k (.with h1 h2)⟩
abbrev bZ:Stmt:=inClass (top 18) 0
theorem mQ:aE ["self","tie"] ["self","tie"] (ag bZ):=⟨rfl,rfl,rfl,by decide+kernel,rfl,by decide+kernel,by decide+kernel⟩
theorem kQ{M C f:Addr}{fd:FuncData}(T:Base K mg M)(e:Ec K C)(na:av K C "tie")(F:df K "__init__" "Bridge.__init__" bZ f fd):FnOk P w K mg base bE 1 f fd ["self","tie"] (gW C "tie"):=by
 refine F.ok mQ (λvs H Q E h=>?_) (λcdv A outer s H vs Q E hr h=>?_)
 ·obtain ⟨a,y,rfl,_⟩:=h
  rfl
 obtain ⟨a,y,rfl,ha,q⟩:=h;refine ⟨_,ah (bq (bA rfl T.m T.sg T.rd T.fc (U (pv 0) (U bj aa)))) (au (br (pv 0) (pv 1) rfl)),?_⟩;refine ⟨_,rfl,a,C,none,_,rfl,ha,e.xo,?_⟩;exact ⟨_,rfl,_,rfl,a,C,[],rfl,e.xc,na,dq ha λdx H' _ k h1 h2=>q H' k (.with h1 h2)⟩
abbrev cP:Stmt:=inClass (top 13) 0
theorem oZ:aE ["self","one","other"] ["self","one","other"] (ag cP):=⟨rfl,rfl,rfl,by decide+kernel,rfl,by decide+kernel,by decide+kernel⟩
theorem mD{M C f:Addr}{fd:FuncData}(T:Base K mg M)(e:Ec K C)(na:av K C "one")(nb:av K C "other")(F:df K "__init__" "Alike.__init__" cP f fd):FnOk P w K mg base bE 1 f fd ["self","one","other"] (pf C "one" "other"):=by
 refine F.ok oZ (λvs H Q E h=>?_) (λcdv A outer s H vs Q E hr h=>?_)
 ·obtain ⟨a,y,z,rfl,_⟩:=h
  rfl
 obtain ⟨a,y,z,rfl,ha,q⟩:=h;refine ⟨_,ah (bq (bA rfl T.m T.sg T.rd T.fc (U (pv 0) (U bj aa)))) (ah (br (pv 0) (pv 1) rfl) (au (br (pv 0) (pv 2) rfl))),?_⟩;refine ⟨_,rfl,a,C,none,_,rfl,ha,e.xo,?_⟩;refine ⟨_,rfl,_,rfl,a,C,[],rfl,e.xc,na,dq ha λdx H' fE k h1 h2=>?_⟩;have qy:a≠dx:=aj ha fE;refine ⟨_,rfl,_,rfl,a,C,_,rfl,e.xc,nb, .inr ⟨dx,h1,h2,by show 1<1000;decide,?_⟩⟩
 have e2:cp "other" z [(("one":Str),y)]= [(("one":Str),y),(("other":Str),z)]:=by
  show (if ("one":Str)="other" then _ else _)=_;rw [if_neg (by decide+kernel)]
  rfl
 rw [e2];exact q _ (λb o eb ne=>by rw [af (aj eb fE)];exact k b o eb ne) (.with (by rw [af qy];exact h1) ae)
abbrev b7:Stmt:=inClass (top 19) 0
theorem mR:aE ["self","one","other"] ["self","one","other"] (ag b7):=⟨rfl,rfl,rfl,by decide+kernel,rfl,by decide+kernel,by decide+kernel⟩
theorem kR{M C f:Addr}{fd:FuncData}(T:Base K mg M)(e:Ec K C)(na:av K C "one")(nb:av K C "other")(F:df K "__init__" "Shared.__init__" b7 f fd):FnOk P w K mg base bE 1 f fd ["self","one","other"] (pf C "one" "other"):=by
 refine F.ok mR (λvs H Q E h=>?_) (λcdv A outer s H vs Q E hr h=>?_)
 ·obtain ⟨a,y,z,rfl,_⟩:=h
  rfl
 obtain ⟨a,y,z,rfl,ha,q⟩:=h;refine ⟨_,ah (bq (bA rfl T.m T.sg T.rd T.fc (U (pv 0) (U bj aa)))) (ah (br (pv 0) (pv 1) rfl) (au (br (pv 0) (pv 2) rfl))),?_⟩;refine ⟨_,rfl,a,C,none,_,rfl,ha,e.xo,?_⟩;refine ⟨_,rfl,_,rfl,a,C,[],rfl,e.xc,na,dq ha λdx H' fE k h1 h2=>?_⟩;have qy:a≠dx:=aj ha fE;refine ⟨_,rfl,_,rfl,a,C,_,rfl,e.xc,nb, .inr ⟨dx,h1,h2,by show 1<1000;decide,?_⟩⟩
 have e2:cp "other" z [(("one":Str),y)]= [(("one":Str),y),(("other":Str),z)]:=by
  show (if ("one":Str)="other" then _ else _)=_;rw [if_neg (by decide+kernel)]
  rfl
 rw [e2];exact q _ (λb o eb ne=>by rw [af (aj eb fE)];exact k b o eb ne) (.with (by rw [af qy];exact h1) ae)
abbrev cT:Stmt:=inClass (top 8) 0
theorem o3:aE ["self","fault"] ["self","fault"] (ag cT):=⟨rfl,rfl,rfl,by decide+kernel,rfl,by decide+kernel,by decide+kernel⟩
theorem mE{M C f:Addr}{fd:FuncData}(Dc:pO ⟨K,0⟩ mg)(T:Base K mg M)(e:Ec K C)(na:av K C "fault")(F:df K "__init__" "NoWeb.__init__" cT f fd):FnOk P w K mg base bE 3 f fd ["self","fault"] (r4 C):=by
 refine F.ok o3 (λvs H Q E h=>?_) (λcdv A outer s H vs Q E hr h=>?_)
 ·obtain ⟨a,t,xs,rfl,_⟩:=h
  rfl
 obtain ⟨a,t,xs,rfl,ha,ht,tI,hlen,q⟩:=h;have g2:FnOk P w K mg base bE 2 _ _ _ _:=jU (P:=P) (w:=w) (base:=base) Dc;refine ⟨_,ah (bq (bA rfl T.m T.sg T.rd T.fc (U (pv 0) (U bj aa)))) (au (br (pv 0) (a9 g2 hr rfl Dc.d_copied.m Dc.d_copied.F.kp Dc.d_copied.b .nil aY (U (pv 1) aa)) rfl)),?_⟩;refine ⟨_,rfl,a,C,none,_,rfl,ha,e.xo,?_⟩;refine ⟨_,rfl,t,xs,rfl,ht,tI,hlen,λr H2 xj wJ gc=>?_⟩;have wd:H2 a=some (cw C a none):=xj _ _ ha;refine ⟨_,rfl,a,C,[],rfl,e.xc,na,dq wd λdx H' fE k h1 h2=>q r H' (λb o eb ne=>k b o (xj b o eb) ne) (.with h1 h2) (k _ _ gc λz=>?_)⟩
 rw [z,wd] at gc;cases gc
end
structure Cs where
 noWeb:Addr
 notPlane:Addr
 alike:Addr
 tooFew:Addr
 notFree:Addr
 notFilled:Addr
 odd:Addr
 bridge:Addr
 shared:Addr
 tooMany:Addr
 tooSmall:Addr
 noText:Addr
 noCorner:Addr
 noRing:Addr
def Cs.list(c:Cs):List Addr:= [c.noWeb,c.notPlane,c.alike,c.tooFew,c.notFree,c.notFilled,c.odd,c.bridge,c.shared,c.tooMany,c.tooSmall,c.noText,c.noCorner,c.noRing]
structure Txt (K:PySem.W.Frag) (mg:Str→Option Value) (M:Addr) (c:Cs):Prop where
 gNoWeb:mg "NoWeb"=some (.ref c.noWeb)
 gNotPlane:mg "NotPlane"=some (.ref c.notPlane)
 gAlike:mg "Alike"=some (.ref c.alike)
 gTooFew:mg "TooFew"=some (.ref c.tooFew)
 gNotFree:mg "NotFree"=some (.ref c.notFree)
 gNotFilled:mg "NotFilled"=some (.ref c.notFilled)
 gOdd:mg "Odd"=some (.ref c.odd)
 gBridge:mg "Bridge"=some (.ref c.bridge)
 gShared:mg "Shared"=some (.ref c.shared)
 gTooMany:mg "TooMany"=some (.ref c.tooMany)
 gTooSmall:mg "TooSmall"=some (.ref c.tooSmall)
 gNoText:mg "NoText"=some (.ref c.noText)
 gNoCorner:mg "NoCorner"=some (.ref c.noCorner)
 gNoRing:mg "NoRing"=some (.ref c.noRing)
 base:Base K mg M
 hn:PySem.W.specialIn K (.builtin "object.__class__") "__get__"=some (some (.builtin "getset_descriptor.__get__"))
 htk:PySem.W.takesIn K (.builtin "object.__class__")=some true
 ec:∀C∈c.list,Ec K C
 nd:c.list.Nodup
 kn:∀C∈c.list,∀D∈c.list,PySem.W.kitOne K (.ref C) (.ref D)=some (decide (D=C))
 km:∀C∈c.list,PySem.W.kitOne K (.ref C) (.ref M)=some true
 kv:∀C∈c.list,PySem.W.kitOne K (.ref C) (.type "ValueError")=some true
theorem Cs.gi(c:Cs):c.noWeb∈c.list:=by simp [Cs.list]
theorem Cs.dj(c:Cs):c.notPlane∈c.list:=by simp [Cs.list]
theorem Cs.fh(c:Cs):c.alike∈c.list:=by simp [Cs.list]
theorem Cs.fj(c:Cs):c.tooFew∈c.list:=by simp [Cs.list]
theorem Cs.dX(c:Cs):c.notFree∈c.list:=by simp [Cs.list]
theorem Cs.cM(c:Cs):c.notFilled∈c.list:=by simp [Cs.list]
theorem Cs.lC(c:Cs):c.odd∈c.list:=by simp [Cs.list]
theorem Cs.fi(c:Cs):c.bridge∈c.list:=by simp [Cs.list]
theorem Cs.dJ(c:Cs):c.shared∈c.list:=by simp [Cs.list]
theorem Cs.iC(c:Cs):c.tooMany∈c.list:=by simp [Cs.list]
theorem Cs.gI(c:Cs):c.tooSmall∈c.list:=by simp [Cs.list]
theorem Cs.jO(c:Cs):c.noText∈c.list:=by simp [Cs.list]
theorem Cs.gH(c:Cs):c.noCorner∈c.list:=by simp [Cs.list]
theorem Cs.jN(c:Cs):c.noRing∈c.list:=by simp [Cs.list]
def ph(c:Cs):Sp:=λvs H Q _=>∃(a C:Addr)(fs:List (Str×V)),vs= [.ref a]∧bN H C a fs∧C∈c.list∧∀(r:Addr)(H':Hp),ak H H'→H' r=some (.lst (c.list.map λD=>V.bl (decide (D=C))))→Q (.ref r) H'
section
variable {P:Program} {w:World} {K:PySem.W.Frag} {mg:Str→Option Value} {base:Heap}
theorem j3:aE ["_law_e","_law_told"] ["_law_e"] (ag cS):=⟨rfl,rfl,rfl,by decide+kernel,rfl,by decide+kernel,by decide+kernel⟩
theorem mH{M:Addr}{c:Cs}(B:jl mg)(T:Txt K mg M c)(D:cW K mg "_law_kinds" cS ["_law_e"]):FnOk P w K mg base bE 1 D.f D.fd ["_law_e"] (ph c):=by
 refine D.F.ok j3 (λvs H Q E h=>?_) (λcdv A outer s H vs Q E hr h=>?_)
 ·obtain ⟨a,C,fs,rfl,_⟩:=h
  rfl
 obtain ⟨a,C,fs,rfl,xa,hC,q⟩:=h;have nd:=j3.nd;have xc:=(T.ec C hC).xc
 refine ⟨_,ah (aH (i:=1) nd rfl (Or.inl rfl) (bg (U (ax (ar T.hn T.htk) rfl B.isinstance boot_isinstance (U (pv 0) (U (aP rfl T.gNoWeb (v:= .ref c.noWeb) rfl) aa))) (U (ax (ar T.hn T.htk) rfl B.isinstance boot_isinstance (U (pv 0) (U (aP rfl T.gNotPlane (v:= .ref c.notPlane) rfl) aa))) (U (ax (ar T.hn T.htk) rfl B.isinstance boot_isinstance (U (pv 0) (U (aP rfl T.gAlike (v:= .ref c.alike) rfl) aa))) (U (ax (ar T.hn T.htk) rfl B.isinstance boot_isinstance (U (pv 0) (U (aP rfl T.gTooFew (v:= .ref c.tooFew) rfl) aa))) aa))))))
  (ah (aH (i:=1) nd rfl (Or.inl rfl) (aD dk (pv 1) (bg (U (ax (ar T.hn T.htk) rfl B.isinstance boot_isinstance (U (pv 0) (U (aP rfl T.gNotFree (v:= .ref c.notFree) rfl) aa))) (U (ax (ar T.hn T.htk) rfl B.isinstance boot_isinstance (U (pv 0) (U (aP rfl T.gNotFilled (v:= .ref c.notFilled) rfl) aa))) (U (ax (ar T.hn T.htk) rfl B.isinstance boot_isinstance (U (pv 0) (U (aP rfl T.gOdd (v:= .ref c.odd) rfl) aa))) (U (ax (ar T.hn T.htk) rfl B.isinstance boot_isinstance (U (pv 0) (U (aP rfl T.gBridge (v:= .ref c.bridge) rfl) aa))) aa)))))))
  (ah (aH (i:=1) nd rfl (Or.inl rfl) (aD dk (pv 1) (bg (U (ax (ar T.hn T.htk) rfl B.isinstance boot_isinstance (U (pv 0) (U (aP rfl T.gShared (v:= .ref c.shared) rfl) aa))) (U (ax (ar T.hn T.htk) rfl B.isinstance boot_isinstance (U (pv 0) (U (aP rfl T.gTooMany (v:= .ref c.tooMany) rfl) aa))) (U (ax (ar T.hn T.htk) rfl B.isinstance boot_isinstance (U (pv 0) (U (aP rfl T.gTooSmall (v:= .ref c.tooSmall) rfl) aa))) (U (ax (ar T.hn T.htk) rfl B.isinstance boot_isinstance (U (pv 0) (U (aP rfl T.gNoText (v:= .ref c.noText) rfl) aa))) aa)))))))
  (au (aX (aD dk (pv 1) (bg (U (ax (ar T.hn T.htk) rfl B.isinstance boot_isinstance (U (pv 0) (U (aP rfl T.gNoCorner (v:= .ref c.noCorner) rfl) aa))) (U (ax (ar T.hn T.htk) rfl B.isinstance boot_isinstance (U (pv 0) (U (aP rfl T.gNoRing (v:= .ref c.noRing) rfl) aa))) aa)))))))),?_⟩
 refine ⟨_,rfl,a,C,fs,_,_,_,rfl,xa,xc, .own _,T.kn C hC _ c.gi,_,rfl,a,C,fs,_,_,_,rfl,xa,xc, .own _,T.kn C hC _ c.dj,_,rfl,a,C,fs,_,_,_,rfl,xa,xc, .own _,T.kn C hC _ c.fh,_,rfl,a,C,fs,_,_,_,rfl,xa,xc, .own _,T.kn C hC _ c.fj,by show 4≤sizeLine;decide,λp1 wF=>?_⟩
 have s1:=aq (o:= .lst [V.bl (decide (c.noWeb=C)),V.bl (decide (c.notPlane=C)),V.bl (decide (c.alike=C)),V.bl (decide (c.tooFew=C))]) wF;have h1:upd H p1 (.lst [V.bl (decide (c.noWeb=C)),V.bl (decide (c.notPlane=C)),V.bl (decide (c.alike=C)),V.bl (decide (c.tooFew=C))]) p1=_:=ae;generalize upd H p1 (.lst [V.bl (decide (c.noWeb=C)),V.bl (decide (c.notPlane=C)),V.bl (decide (c.alike=C)),V.bl (decide (c.tooFew=C))])=H1 at*;have pJ:=xa.same s1;refine ⟨_,rfl,_,rfl,a,C,fs,_,_,_,rfl,pJ,xc, .own _,T.kn C hC _ c.dX,_,rfl,a,C,fs,_,_,_,rfl,pJ,xc, .own _,T.kn C hC _ c.cM,_,rfl,a,C,fs,_,_,_,rfl,pJ,xc, .own _,T.kn C hC _ c.lC,_,rfl,a,C,fs,_,_,_,rfl,pJ,xc, .own _,T.kn C hC _ c.fi,by show 4≤sizeLine;decide,λp2 oi=>?_⟩
 have Ci:p1≠p2:=aj h1 oi;refine ⟨p1,p2,_,_,rfl,rfl,by rw [af Ci];exact h1,ae,by show 8≤sizeLine;decide,λp3 tG=>?_⟩
 generalize sV:upd _ p3 _=H3;have s3:ak H1 H3:=by rw [←sV];exact (aq oi _).trans (aq tG _)
 have h3:H3 p3=some (.lst ([V.bl (decide (c.noWeb=C)),V.bl (decide (c.notPlane=C)),V.bl (decide (c.alike=C)),V.bl (decide (c.tooFew=C))]++ [V.bl (decide (c.notFree=C)),V.bl (decide (c.notFilled=C)),V.bl (decide (c.odd=C)),V.bl (decide (c.bridge=C))])):=by rw [←sV];exact ae
 have pK:=pJ.same s3;refine ⟨_,rfl,_,rfl,a,C,fs,_,_,_,rfl,pK,xc, .own _,T.kn C hC _ c.dJ,_,rfl,a,C,fs,_,_,_,rfl,pK,xc, .own _,T.kn C hC _ c.iC,_,rfl,a,C,fs,_,_,_,rfl,pK,xc, .own _,T.kn C hC _ c.gI,_,rfl,a,C,fs,_,_,_,rfl,pK,xc, .own _,T.kn C hC _ c.jO,by show 4≤sizeLine;decide,λp4 wG=>?_⟩
 have Cj:p3≠p4:=aj h3 wG;refine ⟨p3,p4,_,_,rfl,rfl,by rw [af Cj];exact h3,ae,by show 12≤sizeLine;decide,λp5 Am=>?_⟩
 generalize vY:upd _ p5 _=H5;have s5:ak H3 H5:=by rw [←vY];exact (aq wG _).trans (aq Am _)
 have h5:H5 p5=some (.lst (([V.bl (decide (c.noWeb=C)),V.bl (decide (c.notPlane=C)),V.bl (decide (c.alike=C)),V.bl (decide (c.tooFew=C))]++ [V.bl (decide (c.notFree=C)),V.bl (decide (c.notFilled=C)),V.bl (decide (c.odd=C)),V.bl (decide (c.bridge=C))])++ [V.bl (decide (c.shared=C)),V.bl (decide (c.tooMany=C)),V.bl (decide (c.tooSmall=C)),V.bl (decide (c.noText=C))])):=by rw [←vY];exact ae
 have yD:=pK.same s5;refine ⟨_,rfl,_,rfl,a,C,fs,_,_,_,rfl,yD,xc, .own _,T.kn C hC _ c.gH,_,rfl,a,C,fs,_,_,_,rfl,yD,xc, .own _,T.kn C hC _ c.jN,by show 2≤sizeLine;decide,λp6 wH=>?_⟩
 have Cn:p5≠p6:=aj h5 wH;refine ⟨p5,p6,_,_,rfl,rfl,by rw [af Cn];exact h5,ae,by show 14≤sizeLine;decide,λp7 An=>?_⟩
 exact q p7 _ (((s1.trans s3).trans s5).trans ((aq wH _).trans (aq An _))) ae
end
theorem aO{H H':Hp}{p:Addr}{o:HO}(hp:H p=none)(e:upd H p o=H'):ak H H':=by rw [←e];exact aq hp _
theorem aT{H H':Hp}{p:Addr}{o:HO}(e:upd H p o=H'):H' p=some o:=by rw [←e];exact ae
theorem mC{H:Hp}{C:Addr}{f:Str}{y:V}{Q:Addr→Hp→Prop}(h:∀e H',ak H H'→bN H' C e [(f,y)]→Q e H'):
  ∀e,H e=none→gW C f [.ref e,y] (upd H e (cw C e none)) (λv H2=>v= .aC∧Q e H2) E0:=
 λe he=>⟨e,y,rfl,ae,λH' k xa=>⟨rfl,h e H' (λb o q=>k b o (by rw [af (aj q he)];exact q) (aj q he)) xa⟩⟩
theorem xt{H:Hp}{C:Addr}{f g:Str}{y z:V}{Q:Addr→Hp→Prop}(h:∀e H',ak H H'→bN H' C e [(f,y),(g,z)]→Q e H'):
  ∀e,H e=none→pf C f g [.ref e,y,z] (upd H e (cw C e none)) (λv H2=>v= .aC∧Q e H2) E0:=
 λe he=>⟨e,y,z,rfl,ae,λH' k xa=>⟨rfl,h e H' (λb o q=>k b o (by rw [af (aj q he)];exact q) (aj q he)) xa⟩⟩
theorem Cg{H:Hp}{C t:Addr}{xs:List V}{Q:Addr→Hp→Prop}(ht:H t=some (.tup xs))(hs:∀x∈xs,∃t,Sc x t)(hl:xs.length=3)(h:∀e r H',ak H H'→bN H' C e [("fault", .ref r)]→H' r=some (.tup xs)→Q e H'):
  ∀e,H e=none→r4 C [.ref e, .ref t] (upd H e (cw C e none)) (λv H2=>v= .aC∧Q e H2) E0:=
 λe he=>⟨e,t,xs,rfl,ae,by rw [af (aj ht he)];exact ht,hs,hl,λr H' k xa hr=>⟨rfl,h e r H' (λb o q=>k b o (by rw [af (aj q he)];exact q) (aj q he)) xa hr⟩⟩
theorem oF{H:Hp}{C:Addr}{e:Addr}{H':Hp}(he:H e=none)(h:upd H e (cw C e none)=H'):ak H H'∧bN H' C e []:=by rw [←h];exact ⟨aq he _, .bare ae⟩
theorem c9{K:PySem.W.Frag}{H:Hp}:∀bs:List Bool,cg K H (bs.map V.bl) (bs.map PyData.bool)
 | []=> .nil
 |b::bs=> .cons (.bl b) (c9 bs)
theorem eE:∀bs:List Bool,PyData.eqvAll (bs.map PyData.bool) (bs.map PyData.bool)=true
 | []=>by simp [PyData.eqvAll]
 |b::bs=>by simp [PyData.eqvAll,PyData.eqv,eE bs]
theorem eX(bs:List Bool):(PyData.list (bs.map PyData.bool)).depth≤64:=by
 rw [PyData.depth]
 have:=ey (f:=PyData.bool) (k:=1) (λb=>by simp [PyData.depth]) bs
 omega
theorem rM{l:List Addr}(nd:l.Nodup){n m:Nat}{C:Addr}(hm:l.length=m)(h:l[n]? =some C):l.map (λD=>decide (D=C))=(List.range m).map λi=>decide (i=n):=by
 obtain ⟨hn,hC⟩:=jk.mp h;subst hC;refine List.ext_getElem (by simp [hm]) λi h1 h2=>?_
 rw [List.getElem_map,List.getElem_map,List.getElem_range];have hi:i<l.length:=by simpa using h1
 by_cases e:i=n
 ·subst e;simp
 ·rw [decide_eq_false e]
  refine decide_eq_false λz=>?_;have pw:=List.pairwise_iff_getElem.mp nd
  rcases Nat.lt_or_gt_of_ne e with q|q
  ·exact pw i n hi hn q z
  ·exact pw n i hn hi q z.symm
structure Dat where
 t2:Addr
 tp:Addr
 tf:Addr
 ts:Addr
 r:Addr
 R:Addr
 (e0 e1 e2 e3 e4 e5 e6 e7 e8:Addr)
 (q0 q1 q2 q3 q4 q5 q6 q7 q8:Addr)
 (i j i2 j2 a b sa sb sc few free land odd:Int)
 x:Str
def Dat.es(d:Dat):List Addr:= [d.e0,d.e1,d.e2,d.e3,d.e4,d.e5,d.e6,d.e7,d.e8]
structure Made (c:Cs) (d:Dat) (H:Hp):Prop where
 ok:PyData.strOk d.x=true
 two:H d.t2=some (.tup [.int d.i, .int d.j])
 pr:H d.tp=some (.tup [.int d.i2, .int d.j2])
 fl:H d.tf=some (.tup [.str d.x, .int d.a, .int d.b])
 sm:H d.ts=some (.tup [.int d.sa, .int d.sb, .int d.sc])
 hr:H d.r=some (.tup [.str d.x, .int d.a, .int d.b])
 x0:bN H c.noWeb d.e0 [("fault", .ref d.r)]
 x1:bN H c.notPlane d.e1 [("counted", .ref d.ts)]
 x2:bN H c.alike d.e2 [("one", .int d.i),("other", .int d.j)]
 x3:bN H c.tooFew d.e3 [("point", .int d.few)]
 x4:bN H c.notFree d.e4 [("point", .int d.free)]
 x5:bN H c.notFilled d.e5 [("land", .int d.land)]
 x6:bN H c.odd d.e6 [("point", .int d.odd)]
 x7:bN H c.bridge d.e7 [("tie", .ref d.t2)]
 x8:bN H c.shared d.e8 [("one", .int d.i2),("other", .int d.j2)]
 rows:H d.R=some (.lst [.ref d.q0, .ref d.q1, .ref d.q2, .ref d.q3, .ref d.q4, .ref d.q5, .ref d.q6, .ref d.q7, .ref d.q8])
 h0:H d.q0=some (.tup [.ref d.e0, .ref d.tf])
 h1:H d.q1=some (.tup [.ref d.e1, .ref d.ts])
 h2:H d.q2=some (.tup [.ref d.e2, .int d.i])
 h3:H d.q3=some (.tup [.ref d.e3, .int d.few])
 h4:H d.q4=some (.tup [.ref d.e4, .int d.free])
 h5:H d.q5=some (.tup [.ref d.e5, .int d.land])
 h6:H d.q6=some (.tup [.ref d.e6, .int d.odd])
 h7:H d.q7=some (.tup [.ref d.e7, .ref d.t2])
 h8:H d.q8=some (.tup [.ref d.e8, .int d.i2])
theorem Made.same{c:Cs}{d:Dat}{H H':Hp}(m:Made c d H)(s:ak H H'):Made c d H':=
 ⟨m.ok,s _ _ m.two,s _ _ m.pr,s _ _ m.fl,s _ _ m.sm,s _ _ m.hr,m.x0.same s,m.x1.same s,m.x2.same s,m.x3.same s,m.x4.same s,m.x5.same s,m.x6.same s,m.x7.same s,m.x8.same s,s _ _ m.rows,
  s _ _ m.h0,s _ _ m.h1,s _ _ m.h2,s _ _ m.h3,s _ _ m.h4,s _ _ m.h5,s _ _ m.h6,s _ _ m.h7,s _ _ m.h8⟩
theorem Made.at{c:Cs}{d:Dat}{H:Hp}(m:Made c d H){i:Nat}{v:V}(h:(d.es.map V.ref)[i]? =some v):∃e C fs,v= .ref e∧c.list[i]? =some C∧C∈c.list∧bN H C e fs:=by
 match i,h with
 |0,h=>cases h;exact ⟨_,_,_,rfl,rfl,c.gi,m.x0⟩
 |1,h=>cases h;exact ⟨_,_,_,rfl,rfl,c.dj,m.x1⟩
 |2,h=>cases h;exact ⟨_,_,_,rfl,rfl,c.fh,m.x2⟩
 |3,h=>cases h;exact ⟨_,_,_,rfl,rfl,c.fj,m.x3⟩
 |4,h=>cases h;exact ⟨_,_,_,rfl,rfl,c.dX,m.x4⟩
 |5,h=>cases h;exact ⟨_,_,_,rfl,rfl,c.cM,m.x5⟩
 |6,h=>cases h;exact ⟨_,_,_,rfl,rfl,c.lC,m.x6⟩
 |7,h=>cases h;exact ⟨_,_,_,rfl,rfl,c.fi,m.x7⟩
 |8,h=>cases h;exact ⟨_,_,_,rfl,rfl,c.dJ,m.x8⟩
 |n+9,h=>simp [Dat.es] at h
structure SD (K:PySem.W.Frag) (H:Hp) (x y:V):Prop where
 ex:∃(d:PyData)(t:Value)(b:Bool),Dp K H x d∧Dp K H y d∧d.depth≤64∧PyData.eqv d d=true∧bD K H x t∧bD K H y t∧PySem.W.kitOne K t (.type "bool")=some b
theorem SD.int{K:PySem.W.Frag}{H:Hp}(i:Int):SD K H (.int i) (.int i):=⟨.int i,_,_, .int i, .int i,by simp [PyData.depth],by simp [PyData.eqv], .int i, .int i,ic⟩
theorem SD.tup{K:PySem.W.Frag}{H:Hp}{p q:Addr}{xs:List V}{ds:List PyData}(hp:H p=some (.tup xs))(hq:H q=some (.tup xs))(hd:cg K H xs ds)(hz:(PyData.tuple ds).depth≤64)(he:PyData.eqv (.tuple ds) (.tuple ds)=true):SD K H (.ref p) (.ref q):=
 ⟨.tuple ds,_,_, .tup (bF.of hp) hd, .tup (bF.of hq) hd,hz,he, .tup hp, .tup hq,ie⟩
theorem xp{l:List Int}(h:l.length=8):∃a b c d e f g i,l= [a,b,c,d,e,f,g,i]:=by
 match l,h with
 | [a,b,c,d,e,f,g,i],_=>exact ⟨a,b,c,d,e,f,g,i,rfl⟩
end dg
set_option maxHeartbeats 8000000
namespace dg
open PySem L2
def jd(K:PySem.W.Frag):Sp:=λvs H Q _=>∃(a:Addr)(ns:List Int),vs= [.ref a]∧ay K H a (ns.map V.int)∧ns.length≤63∧∀H',Q (.bl true) H'
abbrev NL:List Str:= ["_law_script","_law_some","_law_two_here","_law_pair","_law_fault_here","_law_sums","_law_few","_law_free","_law_land","_law_odd","_law_rows","_law_k","_law_one","_law_made","_law_found"]
theorem jb:aE NL ["_law_script"] (ag bL):=⟨rfl,rfl,rfl,by decide+kernel,rfl,by decide+kernel,by decide+kernel⟩
structure dw (K:PySem.W.Frag) (C:Addr) (q:Str) (st:Stmt) (ps:List Str) where
 f:Addr
 fd:FuncData
 F:df K "__init__" q st f fd
 b:Binds K fd ps []
 xm:bI K C (.ref f)
 fn:PySem.W.isFn K (.ref f)=true
abbrev XL(P:Program)(w:World)(K:PySem.W.Frag)(mg:Str→Option Value)(base:Heap)(f:Addr)(cdv:Value)(A:Around)(outer:List Env)(s:Shared)(H:Hp)(E:XK):Cx:=(eW bE P w K mg base NL "law" (ag bL) f cdv A outer s H E).gd
section
variable {P:Program} {w:World} {K:PySem.W.Frag} {mg:Str→Option Value} {base:Heap} {M:Addr} {c:Cs}
theorem tV(B:jl mg)(T:Txt K mg M c)(S:cW K mg "_law_same" dP ["_law_found","_law_due"])
  (nf:av K c.noWeb "fault") (nc:av K c.notPlane "counted") (no:av K c.alike "one") (no':av K c.alike "other") (n3:av K c.tooFew "point") (n4:av K c.notFree "point") (n5:av K c.notFilled "land") (n6:av K c.odd "point") (n7:av K c.bridge "tie") (n8:av K c.shared "one") (n8':av K c.shared "other")
  {f:Addr} {cdv:Value} {A:Around} {outer:List Env} {s:Shared} {H:Hp} {E:XK} {Q:VK} (hr:a8 4 (XL P w K mg base f cdv A outer s H E).A) (q:∀H',Q (.bl true) H'):
  ∃t,cz (XL P w K mg base f cdv A outer s H E) ((aw bL).drop 12) t∧∀(d:Dat)(a S1 Md:Addr)(fK fL:Option V)(H1:Hp),Made c d H1→H1 Md=some (.lst (d.es.map V.ref))→
   t {nx:=λ_ H'=>Q .aC H',rt:=Q} [some (.ref a),some (.ref S1),some (.ref d.t2),some (.ref d.tp),some (.ref d.tf),some (.ref d.ts),some (.int d.few),some (.int d.free),some (.int d.land),some (.int d.odd),some (.ref d.R),fK,fL,some (.ref Md),none] H1:=by
 have nd:=jb.nd;have g:=(oR (P:=P) (w:=w) (base:=base) B S).mono (show 1≤4 by decide)
 have Cz:(["_law_k","_law_found","_law_rows"]:List Str).Nodup:=by decide+kernel
 refine ⟨_,ah (aH (i:=14) nd rfl (Or.inr rfl) (bg (U (bo (aG aB (pv 13) ai (λ_ _=>rfl)) rfl) (U (bo (aG aB (pv 13) ai (λ_ _=>rfl)) rfl) (U (bo (aG aB (pv 13) ai (λ_ _=>rfl)) rfl) (U (bo (aG aB (pv 13) ai (λ_ _=>rfl)) rfl) (U (bo (aG aB (pv 13) ai (λ_ _=>rfl)) rfl) (U (bo (aG aB (pv 13) ai (λ_ _=>rfl)) rfl) (U (bo (aG aB (pv 13) ai (λ_ _=>rfl)) rfl) aa)))))))))
  (ah (aH (i:=14) nd rfl (Or.inr rfl) (aD dk (pv 14) (bg (U (bo (aG aB (pv 13) ai (λ_ _=>rfl)) rfl) (U (bo (aG aB (pv 13) ai (λ_ _=>rfl)) rfl) aa)))))
  (ah (cE (fy (d9 (ax (me rfl) rfl B.all boot_all (U (i9 (NC:= ["_law_k","_law_found","_law_rows"]) (src:= [none,some 14,some 10]) rfl (aR.of (ag bL) rfl rfl (by decide+kernel) (by decide+kernel) (by decide+kernel)) ⟨rfl,rfl,rfl,rfl,trivial⟩ (dm rfl B.range (U ai aa))
     (λ_ _ _=>aJ (i:=0) Cz rfl (Or.inl rfl)) (λ_ _ _=>dM) (λ_ _ _=>a9 g hr rfl S.m S.F.kp S.b .nil aY (U (aG (iA (K:=K)) (pv 1) (pv 0) (λ_ _=>rfl)) (U (aG (ou (K:=K)) (aG (iA (K:=K)) (pv 2) (pv 0) (λ_ _=>rfl)) ai (λ_ _=>rfl)) aa)))) aa)))) (au (aX gK)) bu)
  (au (aX (lI (a9 g hr rfl S.m S.F.kp S.b .nil aY (U (bo (aG aB (pv 13) ai (λ_ _=>rfl)) rfl) (U (aG bW (pv 2) ai (λ_ _=>rfl)) aa)))
   (lJ (a9 g hr rfl S.m S.F.kp S.b .nil aY (U (bo (aG aB (pv 13) ai (λ_ _=>rfl)) rfl) (U (aG bW (pv 3) ai (λ_ _=>rfl)) aa))))))))),?_⟩
 intro d a S1 Md fK fL H1 m jB;refine ⟨_,rfl,Md,_,0, .ref d.e0,rfl,rfl,ay.of jB,az (j:=0) rfl,d.e0,c.noWeb,_,_,rfl,m.x0,(T.ec _ c.gi).xc,nf,rfl,_,rfl,Md,_,1, .ref d.e1,rfl,rfl,ay.of jB,az (j:=1) rfl,d.e1,c.notPlane,_,_,rfl,m.x1,(T.ec _ c.dj).xc,nc,rfl,_,rfl,Md,_,2, .ref d.e2,rfl,rfl,ay.of jB,az (j:=2) rfl,d.e2,c.alike,_,_,rfl,m.x2,(T.ec _ c.fh).xc,no,rfl,_,rfl,Md,_,3, .ref d.e3,rfl,rfl,ay.of jB,az (j:=3) rfl,d.e3,c.tooFew,_,_,rfl,m.x3,(T.ec _ c.fj).xc,n3,rfl,_,rfl,Md,_,4, .ref d.e4,rfl,rfl,ay.of jB,az (j:=4) rfl,d.e4,c.notFree,_,_,rfl,m.x4,(T.ec _ c.dX).xc,n4,rfl,_,rfl,Md,_,5, .ref d.e5,rfl,rfl,ay.of jB,az (j:=5) rfl,d.e5,c.notFilled,_,_,rfl,m.x5,(T.ec _ c.cM).xc,n5,rfl,_,rfl,Md,_,6, .ref d.e6,rfl,rfl,ay.of jB,az (j:=6) rfl,d.e6,c.odd,_,_,rfl,m.x6,(T.ec _ c.lC).xc,n6,rfl,by show 7≤sizeLine;decide,λF1 Cp=>?_⟩
 generalize vt:upd _ F1 _=H2;have s2:=aO Cp vt;have zU:=aT vt;have m2:=m.same s2;have nV:=s2 _ _ jB;refine ⟨_,rfl,_,rfl,Md,_,7, .ref d.e7,rfl,rfl,ay.of nV,az (j:=7) rfl,d.e7,c.bridge,_,_,rfl,m2.x7,(T.ec _ c.fi).xc,n7,rfl,_,rfl,Md,_,8, .ref d.e8,rfl,rfl,ay.of nV,az (j:=8) rfl,d.e8,c.shared,_,_,rfl,m2.x8,(T.ec _ c.dJ).xc,n8,rfl,by show 2≤sizeLine;decide,λF2 Cq=>?_⟩
 generalize vv:upd _ F2 _=H3;have s3:=aO Cq vv;have zV:=aT vv;refine ⟨F1,F2,_,_,rfl,rfl,s3 _ _ zU,zV,by show 9≤sizeLine;decide,λF3 Cr=>?_⟩
 generalize vw:upd _ F3 _=H4;have s4:=aO Cr vw;have zW:=aT vw;have m4:=m2.same (s3.trans s4);have wb:=(s3.trans s4) _ _ nV
 have key:∀H5,ak H4 H5→∀k:Nat,k<9→∃x q y,([V.ref d.r, .ref d.ts, .int d.i, .int d.few, .int d.free, .int d.land, .int d.odd]++ [.ref d.t2, .int d.i2])[k]? =some x∧([V.ref d.q0, .ref d.q1, .ref d.q2, .ref d.q3, .ref d.q4, .ref d.q5, .ref d.q6, .ref d.q7, .ref d.q8])[k]? =some (.ref q)∧(∃e,H5 q=some (.tup [.ref e,y]))∧SD K H5 x y:=by
  intro H5 s5 k hk;have m5:=m4.same s5
  match k,hk with
  |0,_=>exact ⟨_,_,_,rfl,rfl,⟨_,m5.h0⟩,SD.tup m5.hr m5.fl (.cons (.str _ m5.ok) (.cons (.int _) (.cons (.int _) .nil))) (by simp [PyData.depth,PyData.depthAll]) (by simp [PyData.eqv,PyData.eqvAll])⟩
  |1,_=>exact ⟨_,_,_,rfl,rfl,⟨_,m5.h1⟩,SD.tup m5.sm m5.sm (.cons (.int _) (.cons (.int _) (.cons (.int _) .nil))) (by simp [PyData.depth,PyData.depthAll]) (by simp [PyData.eqv,PyData.eqvAll])⟩
  |2,_=>exact ⟨_,_,_,rfl,rfl,⟨_,m5.h2⟩,SD.int _⟩
  |3,_=>exact ⟨_,_,_,rfl,rfl,⟨_,m5.h3⟩,SD.int _⟩
  |4,_=>exact ⟨_,_,_,rfl,rfl,⟨_,m5.h4⟩,SD.int _⟩
  |5,_=>exact ⟨_,_,_,rfl,rfl,⟨_,m5.h5⟩,SD.int _⟩
  |6,_=>exact ⟨_,_,_,rfl,rfl,⟨_,m5.h6⟩,SD.int _⟩
  |7,_=>exact ⟨_,_,_,rfl,rfl,⟨_,m5.h7⟩,SD.tup m5.two m5.two (.cons (.int _) (.cons (.int _) .nil)) (by simp [PyData.depth,PyData.depthAll]) (by simp [PyData.eqv,PyData.eqvAll])⟩
  |8,_=>exact ⟨_,_,_,rfl,rfl,⟨_,m5.h8⟩,SD.int _⟩
  |n+9,h=>omega
 refine ⟨9,rfl,by decide,by decide,λDd hD=>?_⟩
 refine gG 9 (λi bR Hc=>∃o,bR= [o,some (.ref F3),some (.ref d.R)]∧ak H4 Hc∧Hc Dd=some (.lst ((List.replicate i true).map V.bl))) ?_ ?_ ?_ ?_ ?_
 ·exact ⟨none,rfl,aq hD _,ae⟩
 ·rintro i bR Hc hi ⟨o,rfl,sm,hd⟩
  exact hi
 ·rintro i bR Hc hi ⟨o,rfl,sm,hd⟩
  exact hi
 ·rintro i x bR Hc H5 hi ⟨o,rfl,sm,hd⟩ ⟨rfl,rfl⟩
  obtain ⟨x,qa,y,e1,e2,⟨e,e3⟩,sd⟩:=key H5 sm i hi;obtain ⟨dd,tt,bb,d1,d2,d3,d4,d5,d6,d7⟩:=sd.ex;have ei:V.int (0+(i:Int))=V.int (i:Int):=by rw [Int.zero_add]
  refine ly ?_;refine ⟨_,rfl,_,rfl,F3,_,_,x,rfl,ei,ay.of (sm _ _ zW),az e1,?_⟩;refine ⟨_,rfl,_,rfl,d.R,_,_,_,rfl,ei,ay.of (sm _ _ m4.rows),az e2,qa,_,1,y,rfl,rfl,bF.of e3,az (j:=1) rfl,?_⟩;refine ⟨x,y,dd,tt,bb,rfl,d1,d2,d3,d4,d5,d6,d7,?_⟩;refine ⟨_,hd,bJ (by simp;omega),_,rfl,λb u e=>?_,?_⟩
  ·rw [af (aj e hD)];exact sm _ _ e
  ·rw [ae,List.replicate_succ',gZ];rfl
 ·rintro bR Hc ⟨o,rfl,sm,hd⟩
  refine ⟨Dd,_,rfl,hd,_,rfl,?_⟩;have ea:(List.replicate 9 true).all id=true:=by decide
  rw [ea];refine cL ?_;have m5:=m4.same sm;have rH:=sm _ _ wb;refine ⟨_,rfl,Md,_,2, .ref d.e2,rfl,rfl,ay.of rH,az (j:=2) rfl,d.e2,c.alike,_, .int d.j,rfl,m5.x2,(T.ec _ c.fh).xc,no',?_,_,rfl,d.t2,_,1, .int d.j,rfl,rfl,bF.of m5.two,az (j:=1) rfl,?_⟩
  ·rfl
  obtain ⟨dd,tt,bb,d1,d2,d3,d4,d5,d6,d7⟩:=(SD.int (K:=K) (H:=Hc) d.j).ex;refine ⟨_,_,dd,tt,bb,rfl,d1,d2,d3,d4,d5,d6,d7,_,rfl,eB ?_⟩;refine ⟨_,rfl,Md,_,8, .ref d.e8,rfl,rfl,ay.of rH,az (j:=8) rfl,d.e8,c.shared,_, .int d.j2,rfl,m5.x8,(T.ec _ c.dJ).xc,n8',?_,_,rfl,d.tp,_,1, .int d.j2,rfl,rfl,bF.of m5.pr,az (j:=1) rfl,?_⟩
  ·rfl
  obtain ⟨dd,tt,bb,d1,d2,d3,d4,d5,d6,d7⟩:=(SD.int (K:=K) (H:=Hc) d.j2).ex;exact ⟨_,_,dd,tt,bb,rfl,d1,d2,d3,d4,d5,d6,d7,q _⟩
end
section
variable {P:Program} {w:World} {K:PySem.W.Frag} {mg:Str→Option Value} {base:Heap} {M:Addr} {c:Cs}
theorem oT{X:Cx}{K:PySem.W.Frag}{es:List Expr}{k1:Nat}{tp:Pos}{n:Nat}{t:jo}(e:X.K=K)(hc:X.calm=true)(h:nj X es t)(hn:(assignEach es X.env).length=n:=by rfl)(tJ:(assignEach es X.env).findIdx? (·.1)=none:=by rfl):PG X (.Tuple es k1 tp) (rF K n t):=by subst e;exact dY hc h hn tJ
theorem sG(j n:Nat)(x y:Int)(hx:x=(j:Int))(hy:y=(n:Int)):decide (V.int x=V.int y)=decide (j=n):=by
 subst hx hy;rw [decide_eq_decide]
 constructor
 ·intro h;have:=V.int.inj h;omega
 ·intro h;rw [h]
theorem sI(j n:Nat)(x y:Int)(hx:x=(n:Int))(hy:y=(j:Int)):decide (V.int x=V.int y)=decide (j=n):=by
 subst hx hy;rw [decide_eq_decide]
 constructor
 ·intro h;have:=V.int.inj h;omega
 ·intro h;rw [h]
theorem rf{σ:St}{H:Hp}{P R:Hp→Prop}(h:P H):pF σ H (λb H5=>if b=true then P H5 else R H5):=by
 show (if true=true then P H else R H);rw [if_pos rfl];exact h
theorem lD(f:Addr→Bool)(l:List Addr):l.map (λD=>V.bl (f D))=(l.map f).map V.bl:=by rw [List.map_map];rfl
theorem tU(B:jl mg)(T:Txt K mg M c)(Kd:cW K mg "_law_kinds" cS ["_law_e"])
  (m9:bI K c.tooMany (.builtin "ValueError.__init__")) (tX:bI K c.tooSmall (.builtin "ValueError.__init__")) (tY:bI K c.noText (.builtin "ValueError.__init__")) (tZ:bI K c.noCorner (.builtin "ValueError.__init__")) (t4:bI K c.noRing (.builtin "ValueError.__init__"))
  {f:Addr} {cdv:Value} {A:Around} {outer:List Env} {s:Shared} {H:Hp} {E:XK} {Q:VK} (hr:a8 4 (XL P w K mg base f cdv A outer s H E).A) {tC:TS}
  (pC:cz (XL P w K mg base f cdv A outer s H E) ((aw bL).drop 12) tC)
  (rC:∀(d:Dat)(a S1 Md:Addr)(fK fL:Option V)(H1:Hp),Made c d H1→H1 Md=some (.lst (d.es.map V.ref))→
   tC {nx:=λ_ H'=>Q .aC H',rt:=Q} [some (.ref a),some (.ref S1),some (.ref d.t2),some (.ref d.tp),some (.ref d.tf),some (.ref d.ts),some (.int d.few),some (.int d.free),some (.int d.land),some (.int d.odd),some (.ref d.R),fK,fL,some (.ref Md),none] H1):
  ∃t,cz (XL P w K mg base f cdv A outer s H E) ((aw bL).drop 9) t∧∀(d:Dat)(a S1:Addr)(H1:Hp),Made c d H1→
   t {nx:=λ_ H'=>Q .aC H',rt:=Q} [some (.ref a),some (.ref S1),some (.ref d.t2),some (.ref d.tp),some (.ref d.tf),some (.ref d.ts),some (.int d.few),some (.int d.free),some (.int d.land),some (.int d.odd),some (.ref d.R),none,none,none,none] H1:=by
 have nd:=jb.nd;have gk:=(mH (P:=P) (w:=w) (base:=base) B T Kd).mono (show 1≤4 by decide)
 have xA:(["_law_j","_law_k"]:List Str).Nodup:=by decide+kernel
 have xB:(["_law_one","_law_due"]:List Str).Nodup:=by decide+kernel
 have xn:c.list.length=14:=rfl
 refine ⟨_,ah (gm PassesOwn.never rfl (jW rfl B.enumerate (U (bg (U (cD m9 rfl T.gTooMany) (U (cD tX rfl T.gTooSmall) (U (cD tY rfl T.gNoText) (U (cD tZ rfl T.gNoCorner) (U (cD t4 rfl T.gNoRing) aa)))))) aa)) (dY rfl (aQ (aJ (i:=11) nd rfl (Or.inr rfl)) (aQ (aJ (i:=12) nd rfl (Or.inl rfl)) dc))) (ah (cE (PW.pt (oV (fy (d9 (ax (ar T.hn T.htk) rfl B.isinstance boot_isinstance (U (pv 12) (U (aP rfl T.base.m (v:= .ref M) rfl) aa)))))
     (lN (fy (d9 (ax (ar T.hn T.htk) rfl B.isinstance boot_isinstance (U (pv 12) (U (bP rfl B.ve ju (v:= .ty "ValueError") rfl) aa)))))))) (au (aX gK)) bu)
    (au (cE (bY (lG hr.units) (a9 gk hr rfl Kd.m Kd.F.kp Kd.b .nil aY (U (pv 12) aa))
     (i9 (NC:= ["_law_j","_law_k"]) (src:= [none,some 11]) rfl (aR.of (ag bL) rfl rfl (by decide+kernel) (by decide+kernel) (by decide+kernel)) ⟨rfl,rfl,trivial⟩ (dm rfl B.range (U ai aa))
      (λ_ _ _=>aJ (i:=0) xA rfl (Or.inl rfl)) (λ_ _ _=>dM) (λ_ _ _=>fu eM (pv 0) (aD bX ai (pv 1)) (bG _))) (bG _)) (au (aX gK)) bu))))
  (ah (iF (i:=13) (NC:= ["_law_one","_law_due"]) (src:= [none,none]) rfl nd rfl (Or.inl rfl) (aR.of (ag bL) rfl rfl (by decide+kernel) (by decide+kernel) (by decide+kernel)) trivial (gM (pv 10))
    (λ_ _ _=>oT (K:=K) (n:=2) rfl rfl (aQ (aJ (i:=0) xB rfl (Or.inl rfl)) (aQ (aJ (i:=1) xB rfl (Or.inl rfl)) dc))) (λ_ _ _=>dM) (λ_ _ _=>pv 0) rfl)
  (ah (gm PassesOwn.never rfl (jW rfl B.enumerate (U (pv 13) aa)) (dY rfl (aQ (aJ (i:=11) nd rfl (Or.inr rfl)) (aQ (aJ (i:=12) nd rfl (Or.inl rfl)) dc))) (ah (cE (PW.pt (oV (fy (d9 (ax (ar T.hn T.htk) rfl B.isinstance boot_isinstance (U (pv 12) (U (aP rfl T.base.m (v:= .ref M) rfl) aa)))))
     (lN (fy (d9 (ax (ar T.hn T.htk) rfl B.isinstance boot_isinstance (U (pv 12) (U (bP rfl B.ve ju (v:= .ty "ValueError") rfl) aa)))))))) (au (aX gK)) bu)
    (au (cE (bY (lG hr.units) (a9 gk hr rfl Kd.m Kd.F.kp Kd.b .nil aY (U (pv 12) aa))
     (i9 (NC:= ["_law_j","_law_k"]) (src:= [none,some 11]) rfl (aR.of (ag bL) rfl rfl (by decide+kernel) (by decide+kernel) (by decide+kernel)) ⟨rfl,rfl,trivial⟩ (dm rfl B.range (U ai aa))
      (λ_ _ _=>aJ (i:=0) xA rfl (Or.inl rfl)) (λ_ _ _=>dM) (λ_ _ _=>fu eM (pv 1) (pv 0) (bG _))) (bG _)) (au (aX gK)) bu)))) pC)),?_⟩
 intro d a S1 H1 m;intro u9 CT;generalize e9:upd _ u9 _=G9;obtain ⟨s9,x9⟩:=oF CT e9;intro uu xM;generalize zu:upd _ uu _=yH;obtain ⟨qI,El⟩:=oF xM zu;intro uv xN;generalize zw:upd _ uv _=yI;obtain ⟨qJ,Em⟩:=oF xN zw;intro uw xO;generalize zx:upd _ uw _=yJ;obtain ⟨qK,En⟩:=oF xO zx;intro ux xP;generalize zy:upd _ ux _=yK;obtain ⟨oY,Eo⟩:=oF xP zy;refine ⟨by show 5≤sizeLine;decide,λL nL=>?_⟩
 generalize eL:upd _ L _=GL;have sL:=aO nL eL;have hL:=aT eL;have yC:=Eo.same sL;have yB:=(En.same oY).same sL;have yA:=((Em.same qK).same oY).same sL;have yz:=(((El.same qJ).same qK).same oY).same sL;have Ep:=((((x9.same qI).same qJ).same qK).same oY).same sL;have mL:Made c d GL:=(((((m.same s9).same qI).same qJ).same qK).same oY).same sL
 have y0:∀{i:Nat}{v:V},([V.ref u9, .ref uu, .ref uv, .ref uw, .ref ux])[i]? =some v→∃e C fs,v= .ref e∧c.list[9+i]? =some C∧C∈c.list∧bN GL C e fs:=by
  intro i v h
  match i,h with
  |0,h=>cases h;exact ⟨_,_,_,rfl,rfl,c.iC,Ep⟩
  |1,h=>cases h;exact ⟨_,_,_,rfl,rfl,c.gI,yz⟩
  |2,h=>cases h;exact ⟨_,_,_,rfl,rfl,c.jO,yA⟩
  |3,h=>cases h;exact ⟨_,_,_,rfl,rfl,c.gH,yB⟩
  |4,h=>cases h;exact ⟨_,_,_,rfl,rfl,c.jN,yC⟩
  |n+5,h=>simp at h
 refine ⟨L,rfl,⟨_,hL⟩,iy (xs:= [V.ref u9, .ref uu, .ref uv, .ref uw, .ref ux]) (λi σ H'=>∃fK fL,σ= [some (.ref a),some (.ref S1),some (.ref d.t2),some (.ref d.tp),some (.ref d.tf),some (.ref d.ts),some (.int d.few),some (.int d.free),some (.int d.land),some (.int d.odd),some (.ref d.R),fK,fL,none,none]∧ak GL H') ⟨_,_,rfl,ak.refl _⟩ (λi σ H' _ ⟨_,_,_,sm⟩=>ay.of (sm _ _ hL)) ?_ ?_⟩
 ·rintro i x t σ H2 hx ht ⟨fK,fL,rfl,sm⟩
  obtain ⟨e,C,fs,rfl,sT,hC,uI⟩:=y0 hx;refine ⟨t,_,rfl,bF.of ae,rfl,_,_,rfl,_,_,rfl,rfl,?_⟩;generalize e2:upd _ t _=H3;have s3:=aO ht e2;have xa:=(uI.same sm).same s3;have xc:=(T.ec C hC).xc;refine ⟨_,rfl,e,C,fs,_,_,_,rfl,xa,xc, .own _,T.km C hC,_,rfl,cL ?_⟩;refine ⟨_,rfl,e,C,fs,_,_,_,rfl,xa,xc, .blt _,T.kv C hC,_,rfl,cL ?_⟩;refine ⟨_,rfl,e,C,fs,rfl,xa,hC,λr H4 s4 oj=>?_⟩;rw [lD,rM T.nd xn sT] at oj;refine ⟨14,rfl,by decide,by decide,λDd hD=>?_⟩
  refine gG 14 (λj bR Hc=>∃o,bR= [o,some (.int (i:Int))]∧ak H4 Hc∧Hc Dd=some (.lst (((List.range j).map λk=>decide (k=(9+i))).map V.bl))) ?_ ?_ ?_ ?_ ?_
  ·exact ⟨none,rfl,aq hD _,ae⟩
  ·rintro j bR Hc hj ⟨o,rfl,sj,hd⟩
   exact hj
  ·rintro j bR Hc hj ⟨o,rfl,sj,hd⟩
   exact hj
  ·rintro j y bR Hc H5 hj ⟨o,rfl,sj,hd⟩ ⟨rfl,rfl⟩
   refine ly ?_;refine ⟨_,rfl,_,rfl,_,_,rfl,rfl,rfl,?_⟩;refine ⟨_,hd,bJ (by simp;omega),_,rfl,λb u eb=>?_,?_⟩
   ·rw [af (aj eb hD)];exact sj _ _ eb
   ·rw [ae,sG j (9+i) _ _ (by omega) (by omega),List.range_succ,gZ,gZ];rfl
  ·rintro bR Hc ⟨o,rfl,sj,hd⟩
   refine ⟨_,_, .lst (ay.of (sj _ _ oj)) (c9 _), .lst (ay.of hd) (c9 _),eX _,_,rfl,?_⟩;rw [show PyData.eqv (PyData.list (((List.range 14).map λk=>decide (k=(9+i))).map PyData.bool)) (PyData.list (((List.range 14).map λk=>decide (k=(9+i))).map PyData.bool))=true by rw [PyData.eqv];exact eE _]
   refine cL ?_;exact ⟨_,_,rfl,((sm.trans s3).trans s4).trans sj⟩
 ·rintro σ H2 ⟨fK,fL,rfl,D1⟩
  have m2:=mL.same D1;refine ⟨_,rfl,d.R,rfl,⟨_,ay.of m2.rows⟩,λDm vX=>?_⟩
  have rowAt:∀{H3:Hp},Made c d H3→∀{i:Nat}{v:V},([V.ref d.q0, .ref d.q1, .ref d.q2, .ref d.q3, .ref d.q4, .ref d.q5, .ref d.q6, .ref d.q7, .ref d.q8])[i]? =some v→∃q e y,v= .ref q∧d.es[i]? =some e∧H3 q=some (.tup [.ref e,y]):=by
   intro H3 m3 i v h
   match i,h with
   |0,h=>cases h;exact ⟨_,_,_,rfl,rfl,m3.h0⟩
   |1,h=>cases h;exact ⟨_,_,_,rfl,rfl,m3.h1⟩
   |2,h=>cases h;exact ⟨_,_,_,rfl,rfl,m3.h2⟩
   |3,h=>cases h;exact ⟨_,_,_,rfl,rfl,m3.h3⟩
   |4,h=>cases h;exact ⟨_,_,_,rfl,rfl,m3.h4⟩
   |5,h=>cases h;exact ⟨_,_,_,rfl,rfl,m3.h5⟩
   |6,h=>cases h;exact ⟨_,_,_,rfl,rfl,m3.h6⟩
   |7,h=>cases h;exact ⟨_,_,_,rfl,rfl,m3.h7⟩
   |8,h=>cases h;exact ⟨_,_,_,rfl,rfl,m3.h8⟩
   |n+9,h=>simp at h
  refine gG 9 (λi bR Hc=>∃o o',bR= [o,o']∧ak H2 Hc∧Hc Dm=some (.lst ((d.es.take i).map V.ref))) ?_ ?_ ?_ ?_ ?_
  ·exact ⟨none,none,rfl,aq vX _,ae⟩
  ·rintro i bR Hc hi ⟨o,o',rfl,sm,hd⟩
   exact ⟨_,_,ay.of (sm _ _ m2.rows),fX (by show i<9;exact hi)⟩
  ·rintro i bR Hc hi ⟨o,o',rfl,sm,hd⟩
   exact ⟨_,ay.of (sm _ _ m2.rows),hi⟩
  ·rintro i x bR Hc H3 hi ⟨o,o',rfl,sm,hd⟩ ⟨rfl,hx⟩
   obtain ⟨q,e,y,rfl,he,hq⟩:=rowAt (m2.same sm) (hx _ (ay.of (sm _ _ m2.rows)));refine ⟨q,_,rfl,bF.of hq,rfl,_,_,rfl,_,_,rfl,rfl,?_⟩;refine rf ?_;refine ⟨_,rfl,_,hd,bJ (by simp;omega),_,_,rfl,λb u eb=>?_,?_⟩
   ·rw [af (aj eb vX)];exact sm _ _ eb
   ·obtain ⟨hl,hg⟩:=jk.mp he
    rw [ae,List.take_succ_eq_append_getElem hl,hg,gZ];rfl
  ·rintro bR Hc ⟨o,o',rfl,sm,hd⟩
   have m3:=m2.same sm;have eY:Hc Dm=some (.lst (d.es.map V.ref)):=hd;refine ⟨_,rfl,Dm,rfl,⟨_,eY⟩,iy (xs:=d.es.map V.ref) (λi σ H'=>∃fK fL,σ= [some (.ref a),some (.ref S1),some (.ref d.t2),some (.ref d.tp),some (.ref d.tf),some (.ref d.ts),some (.int d.few),some (.int d.free),some (.int d.land),some (.int d.odd),some (.ref d.R),fK,fL,some (.ref Dm),none]∧ak Hc H') ⟨_,_,rfl,ak.refl _⟩ (λi σ H' _ ⟨_,_,_,sm⟩=>ay.of (sm _ _ eY)) ?_ ?_⟩
   ·rintro i x t σ H2 hx ht ⟨fK,fL,rfl,sm⟩
    obtain ⟨e,C,fs,rfl,sT,hC,uI⟩:=m3.at hx;refine ⟨t,_,rfl,bF.of ae,rfl,_,_,rfl,_,_,rfl,rfl,?_⟩;generalize e2:upd _ t _=H3;have s3:=aO ht e2;have xa:=(uI.same sm).same s3;have xc:=(T.ec C hC).xc;refine ⟨_,rfl,e,C,fs,_,_,_,rfl,xa,xc, .own _,T.km C hC,_,rfl,cL ?_⟩;refine ⟨_,rfl,e,C,fs,_,_,_,rfl,xa,xc, .blt _,T.kv C hC,_,rfl,cL ?_⟩;refine ⟨_,rfl,e,C,fs,rfl,xa,hC,λr H4 s4 oj=>?_⟩;rw [lD,rM T.nd xn sT] at oj;refine ⟨14,rfl,by decide,by decide,λDd hD=>?_⟩
    refine gG 14 (λj bR Hc=>∃o,bR= [o,some (.int (i:Int))]∧ak H4 Hc∧Hc Dd=some (.lst (((List.range j).map λk=>decide (k=i)).map V.bl))) ?_ ?_ ?_ ?_ ?_
    ·exact ⟨none,rfl,aq hD _,ae⟩
    ·rintro j bR Hc hj ⟨o,rfl,sj,hd⟩
     exact hj
    ·rintro j bR Hc hj ⟨o,rfl,sj,hd⟩
     exact hj
    ·rintro j y bR Hc H5 hj ⟨o,rfl,sj,hd⟩ ⟨rfl,rfl⟩
     refine ly ?_;refine ⟨_,rfl,_,rfl,rfl,?_⟩;refine ⟨_,hd,bJ (by simp;omega),_,rfl,λb u eb=>?_,?_⟩
     ·rw [af (aj eb hD)];exact sj _ _ eb
     ·rw [ae,sI j i _ _ rfl (by omega),List.range_succ,gZ,gZ];rfl
    ·rintro bR Hc ⟨o,rfl,sj,hd⟩
     refine ⟨_,_, .lst (ay.of (sj _ _ oj)) (c9 _), .lst (ay.of hd) (c9 _),eX _,_,rfl,?_⟩;rw [show PyData.eqv (PyData.list (((List.range 14).map λk=>decide (k=i)).map PyData.bool)) (PyData.list (((List.range 14).map λk=>decide (k=i)).map PyData.bool))=true by rw [PyData.eqv];exact eE _]
     refine cL ?_;exact ⟨_,_,rfl,((sm.trans s3).trans s4).trans sj⟩
   ·rintro σ H4 ⟨fK,fL,rfl,yd⟩
    exact rC d a S1 Dm fK fL H4 (m3.same yd) (yd _ _ eY)
end
section
variable {P:Program} {w:World} {K:PySem.W.Frag} {mg:Str→Option Value} {base:Heap} {M:Addr} {c:Cs}
structure NA (K:PySem.W.Frag) (c:Cs):Prop where
 nf:av K c.noWeb "fault"
 nc:av K c.notPlane "counted"
 no:av K c.alike "one"
 no':av K c.alike "other"
 n3:av K c.tooFew "point"
 n4:av K c.notFree "point"
 n5:av K c.notFilled "land"
 n6:av K c.odd "point"
 n7:av K c.bridge "tie"
 n8:av K c.shared "one"
 n8':av K c.shared "other"
theorem tT(B:jl mg)(T:Txt K mg M c)(N:NA K c)(Dc:pO ⟨K,0⟩ mg)(Ce:cW K mg "_law_cell" dN ["_law_script","_law_k"])(Tw:cW K mg "_law_two" fV ["_law_cell_here","_law_many"])
  (Fa:cW K mg "_law_fault" cR ["_law_cell_here","_law_two_here"]) (Co:cW K mg "_law_count" cQ ["_law_cell_here"]) (I0:dw K c.noWeb "NoWeb.__init__" cT ["self","fault"]) (I1:dw K c.notPlane "NotPlane.__init__" bw ["self","counted"]) (I2:dw K c.alike "Alike.__init__" cP ["self","one","other"]) (I3:dw K c.tooFew "TooFew.__init__" cc ["self","point"]) (I4:dw K c.notFree "NotFree.__init__" bM ["self","point"]) (I5:dw K c.notFilled "NotFilled.__init__" ba ["self","land"]) (I6:dw K c.odd "Odd.__init__" fU ["self","point"]) (I7:dw K c.bridge "Bridge.__init__" bZ ["self","tie"]) (I8:dw K c.shared "Shared.__init__" b7 ["self","one","other"])
  {f:Addr} {cdv:Value} {A:Around} {outer:List Env} {s:Shared} {H:Hp} {E:XK} {Q:VK} (hr:a8 4 (XL P w K mg base f cdv A outer s H E).A) {tB:TS}
  (pB:cz (XL P w K mg base f cdv A outer s H E) ((aw bL).drop 9) tB)
  (rB:∀(d:Dat)(a S1:Addr)(H1:Hp),Made c d H1→tB {nx:=λ_ H'=>Q .aC H',rt:=Q} [some (.ref a),some (.ref S1),some (.ref d.t2),some (.ref d.tp),some (.ref d.tf),some (.ref d.ts),some (.int d.few),some (.int d.free),some (.int d.land),some (.int d.odd),some (.ref d.R),none,none,none,none] H1)
  {a:Addr} {ns:List Int} (hS:ay K H a (ns.map V.int)) (qb:ns.length≤63):
  ∃t,cz (XL P w K mg base f cdv A outer s H E) (aw bL) t∧t {nx:=λ_ H'=>Q .aC H',rt:=Q} (start NL [.ref a]) H:=by
 have nd:=jb.nd;have CA:(["_law_k","_law_script"]:List Str).Nodup:=by decide+kernel
 have gc:=hr.mono (show 2≤4 by decide)
 have gC:=(oQ (P:=P) (w:=w) (base:=base) Ce).mono (show 1≤4 by decide)
 have gT:=(qE (P:=P) (w:=w) (base:=base) Tw).mono (show 1≤4 by decide)
 have gF:=(mG (P:=P) (w:=w) (base:=base) Fa).mono (show 1≤4 by decide)
 have gN:=(mF (P:=P) (w:=w) (base:=base) Co).mono (show 1≤4 by decide)
 have g0:=mE (P:=P) (w:=w) (base:=base) Dc T.base (T.ec _ c.gi) N.nf I0.F;have g1:=iZ (P:=P) (w:=w) (base:=base) T.base (T.ec _ c.dj) N.nc I1.F;have g2:=mD (P:=P) (w:=w) (base:=base) T.base (T.ec _ c.fh) N.no N.no' I2.F;have g3:=kS (P:=P) (w:=w) (base:=base) T.base (T.ec _ c.fj) N.n3 I3.F;have g4:=jT (P:=P) (w:=w) (base:=base) T.base (T.ec _ c.dX) N.n4 I4.F;have g5:=ij (P:=P) (w:=w) (base:=base) T.base (T.ec _ c.cM) N.n5 I5.F;have g6:=qC (P:=P) (w:=w) (base:=base) T.base (T.ec _ c.lC) N.n6 I6.F;have g7:=kQ (P:=P) (w:=w) (base:=base) T.base (T.ec _ c.fi) N.n7 I7.F;have g8:=kR (P:=P) (w:=w) (base:=base) T.base (T.ec _ c.dJ) N.n8 N.n8' I8.F
 refine ⟨_,ah (iF (i:=1) (NC:= ["_law_k","_law_script"]) (src:= [none,some 0]) rfl nd rfl (Or.inl rfl) (aR.of (ag bL) rfl rfl (by decide+kernel) (by decide+kernel) (by decide+kernel)) ⟨rfl,rfl,trivial⟩ (dm rfl B.range (U ai aa))
    (λ_ _ _=>aJ (i:=0) CA rfl (Or.inl rfl)) (λ_ _ _=>dM) (λ_ _ _=>a9 gC hr rfl Ce.m Ce.F.kp Ce.b .nil aY (U (pv 1) (U (pv 0) aa))) rfl)
  (ah (aH (i:=2) nd rfl (Or.inl rfl) (a9 gT hr rfl Tw.m Tw.F.kp Tw.b .nil aY (U (aG aB (pv 1) ai (λ_ _=>rfl)) (U ai aa))))
  (ah (aH (i:=3) nd rfl (Or.inl rfl) (a9 gT hr rfl Tw.m Tw.F.kp Tw.b .nil aY (U (aG aB (pv 1) ai (λ_ _=>rfl)) (U ai aa))))
  (ah (aH (i:=4) nd rfl (Or.inl rfl) (a9 gF hr rfl Fa.m Fa.F.kp Fa.b .nil aY (U (aG aB (pv 1) ai (λ_ _=>rfl)) (U (pv 2) aa))))
  (ah (aH (i:=5) nd rfl (Or.inl rfl) (a9 gN hr rfl Co.m Co.F.kp Co.b .nil aY (U (aG aB (pv 1) ai (λ_ _=>rfl)) aa)))
  (ah (gj (aV (U (aD bO (aG aB (pv 1) ai (λ_ _=>rfl)) ai) (U (aD bO (aG aB (pv 1) ai (λ_ _=>rfl)) ai) (U (aD bO (aG aB (pv 1) ai (λ_ _=>rfl)) ai) (U (aD bO (aG aB (pv 1) ai (λ_ _=>rfl)) ai) aa))))) (dY rfl (aQ (aJ (i:=6) nd rfl (Or.inl rfl)) (aQ (aJ (i:=7) nd rfl (Or.inl rfl)) (aQ (aJ (i:=8) nd rfl (Or.inl rfl)) (aQ (aJ (i:=9) nd rfl (Or.inl rfl)) dc))))))
  (ah (aH (i:=10) nd rfl (Or.inr rfl) (bg (U (aV (U (bB I0.xm I0.fn g0 hr rfl T.gNoWeb I0.b (by decide) aY (U (pv 4) aa)) (U (pv 4) aa))) (U (aV (U (bB I1.xm I1.fn g1 gc rfl T.gNotPlane I1.b (by decide) aY (U (pv 5) aa)) (U (pv 5) aa))) (U (aV (U (bB I2.xm I2.fn g2 gc rfl T.gAlike I2.b (by decide) aY (U (aG bW (pv 2) ai (λ_ _=>rfl)) (U (aG bW (pv 2) ai (λ_ _=>rfl)) aa))) (U (aG bW (pv 2) ai (λ_ _=>rfl)) aa))) (U (aV (U (bB I3.xm I3.fn g3 gc rfl T.gTooFew I3.b (by decide) aY (U (pv 6) aa)) (U (pv 6) aa))) aa))))))
  (ah (aH (i:=10) nd rfl (Or.inr rfl) (aD dk (pv 10) (bg (U (aV (U (bB I4.xm I4.fn g4 gc rfl T.gNotFree I4.b (by decide) aY (U (pv 7) aa)) (U (pv 7) aa))) (U (aV (U (bB I5.xm I5.fn g5 gc rfl T.gNotFilled I5.b (by decide) aY (U (pv 8) aa)) (U (pv 8) aa))) (U (aV (U (bB I6.xm I6.fn g6 gc rfl T.gOdd I6.b (by decide) aY (U (pv 9) aa)) (U (pv 9) aa))) (U (aV (U (bB I7.xm I7.fn g7 gc rfl T.gBridge I7.b (by decide) aY (U (pv 2) aa)) (U (pv 2) aa))) aa)))))))
  (ah (aH (i:=10) nd rfl (Or.inr rfl) (aD dk (pv 10) (bg (U (aV (U (bB I8.xm I8.fn g8 gc rfl T.gShared I8.b (by decide) aY (U (aG bW (pv 3) ai (λ_ _=>rfl)) (U (aG bW (pv 3) ai (λ_ _=>rfl)) aa))) (U (aG bW (pv 3) ai (λ_ _=>rfl)) aa))) aa)))) pB)))))))),?_⟩
 refine ⟨8,rfl,by decide,by decide,λSm wc=>?_⟩
 refine gG 8 (λi bR Hc=>∃(o:Option V)(cs:List Int),bR= [o,some (.ref a)]∧ak H Hc∧Hc Sm=some (.lst (cs.map V.int))∧cs.length=i) ?_ ?_ ?_ ?_ ?_
 ·exact ⟨none,[],rfl,aq wc _,ae,rfl⟩
 ·rintro i bR Hc hi ⟨o,cs,rfl,sm,hd,hl⟩
  exact hi
 ·rintro i bR Hc hi ⟨o,cs,rfl,sm,hd,hl⟩
  exact hi
 ·rintro i x bR Hc H3 hi ⟨o,cs,rfl,sm,hd,hl⟩ ⟨rfl,rfl⟩
  refine ly ?_;refine ⟨_,rfl,_,rfl,a,ns,_,rfl,sm.seq hS,qb,by omega,by omega,λv H4 s4=>?_⟩
  refine ⟨_,s4 _ _ hd,bJ (by simp;omega),_,cs++ [v],rfl,λb u e=>?_,?_,by simp [hl]⟩
  ·rw [af (aj e wc)];exact s4 _ _ (sm _ _ e)
  ·rw [ae,gZ];rfl
 rintro bR H1 ⟨o,cs,rfl,D0,hd,hl⟩;obtain ⟨c0,c1,c2,c3,c4,c5,c6,c7,rfl⟩:=xp hl;clear D0;refine ⟨_,rfl,Sm,_,0, .int c0,rfl,rfl,ay.of hd,az (j:=0) rfl,c0,14,rfl,by decide,by decide,λt2 i j H2 s2 wL=>?_⟩
 have hd2:=s2 _ _ hd;refine ⟨_,rfl,Sm,_,1, .int c1,rfl,rfl,ay.of hd2,az (j:=1) rfl,c1,24,rfl,by decide,by decide,λtp i2 j2 H3 s3 tL=>?_⟩
 have wk:=s3 _ _ hd2;have wM:=s3 _ _ wL;refine ⟨_,rfl,Sm,_,2, .int c2,rfl,rfl,ay.of wk,az (j:=2) rfl,_,rfl,c2,t2,i,j,rfl,wM,λtf x fa fb H4 xS s4 AE=>?_⟩;have wm:=s4 _ _ wk;refine ⟨_,rfl,Sm,_,3, .int c3,rfl,rfl,ay.of wm,az (j:=3) rfl,c3,rfl,λts sa sb sc H5 s5 AG=>?_⟩;have qe:=s5 _ _ wm;refine ⟨_,rfl,Sm,_,4, .int c4,rfl,rfl,ay.of qe,az (j:=4) rfl,_,_,rfl,rfl,(by show (0:Int)<14;decide),_,rfl,Sm,_,5, .int c5,rfl,rfl,ay.of qe,az (j:=5) rfl,_,_,rfl,rfl,(by show (0:Int)<14;decide),_,rfl,Sm,_,6, .int c6,rfl,rfl,ay.of qe,az (j:=6) rfl,_,_,rfl,rfl,(by show (0:Int)<24;decide),_,rfl,Sm,_,7, .int c7,rfl,rfl,ay.of qe,az (j:=7) rfl,_,_,rfl,rfl,(by show (0:Int)<14;decide),by show 4≤sizeLine;decide,λtq CQ=>?_⟩
 generalize vI:upd _ tq _=G0;have s6:=aO CQ vI;have AF:=aT vI;refine ⟨tq,_,rfl,bF.of AF,rfl,_,_,rfl,_,_,rfl,_,_,rfl,_,_,rfl,rfl,?_⟩;have b2:G0 t2=_:=(((s3.trans s4).trans s5).trans s6) _ _ wL;have bp:G0 tp=_:=((s4.trans s5).trans s6) _ _ tL;have bf:G0 tf=_:=(s5.trans s6) _ _ AE;have bs:G0 ts=_:=s6 _ _ AG
 have tI:∀y∈([.str x, .int fa, .int fb]:List V),∃t,Sc y t:=λy hy=>by
  rcases cF.mp hy with z|hy
  ·rw [z];exact ⟨_, .str _ xS⟩
  rcases cF.mp hy with z|hy
  ·rw [z];exact ⟨_, .int _⟩
  rcases cF.mp hy with z|hy
  ·rw [z];exact ⟨_, .int _⟩
  cases hy
 have w0:ak G0 G0:=ak.refl _;refine ⟨_,rfl,Cg (w0 _ _ bf) tI rfl λe0 r0 G1 v1 x0 wJ=>?_⟩;have w1:=w0.trans v1;refine ⟨_,rfl,by show 2≤sizeLine;decide,λq0 CC=>?_⟩
 generalize vE:upd _ q0 _=G2;have v2:=aO CC vE;have Ao:=aT vE;have w2:=w1.trans v2;refine ⟨_,rfl,mC λe1 G3 v3 x1=>?_⟩;have w3:=w2.trans v3;refine ⟨_,rfl,by show 2≤sizeLine;decide,λq1 CD=>?_⟩
 generalize eq1:upd _ q1 _=G4;have v4:=aO CD eq1;have Ap:=aT eq1;have w4:=w3.trans v4;refine ⟨_,rfl,t2,_,0, .int i,rfl,rfl,bF.of (w4 _ _ b2),az (j:=0) rfl,_,rfl,t2,_,1, .int j,rfl,rfl,bF.of (w4 _ _ b2),az (j:=1) rfl,xt λe2 G5 v5 x2=>?_⟩;have w5:=w4.trans v5;refine ⟨_,rfl,t2,_,0, .int i,rfl,rfl,bF.of (w5 _ _ b2),az (j:=0) rfl,by show 2≤sizeLine;decide,λq2 CF=>?_⟩
 generalize eq2:upd _ q2 _=G6;have v6:=aO CF eq2;have Aq:=aT eq2;have w6:=w5.trans v6;refine ⟨_,rfl,mC λe3 G7 v7 x3=>?_⟩;have w7:=w6.trans v7;refine ⟨_,rfl,by show 2≤sizeLine;decide,λq3 CG=>?_⟩
 generalize eq3:upd _ q3 _=G8;have v8:=aO CG eq3;have Ar:=aT eq3;have w8:=w7.trans v8;refine ⟨by show 4≤sizeLine;decide,λR1 Ct=>?_⟩
 generalize vx:upd _ R1 _=G9;have v9:=aO Ct vx;have zX:=aT vx;have w9:=w8.trans v9;refine ⟨_,rfl,_,rfl,mC λe4 yH v10 x4=>?_⟩;have D9:=w9.trans v10;refine ⟨_,rfl,by show 2≤sizeLine;decide,λq4 CH=>?_⟩
 generalize eq4:upd _ q4 _=yI;have v11:=aO CH eq4;have As:=aT eq4;have Ea:=D9.trans v11;refine ⟨_,rfl,mC λe5 yJ uy x5=>?_⟩;have Eb:=Ea.trans uy;refine ⟨_,rfl,by show 2≤sizeLine;decide,λq5 CI=>?_⟩
 generalize eq5:upd _ q5 _=yK;have uz:=aO CI eq5;have Au:=aT eq5;have Ed:=Eb.trans uz;refine ⟨_,rfl,mC λe6 Ez uA x6=>?_⟩;have Ee:=Ed.trans uA;refine ⟨_,rfl,by show 2≤sizeLine;decide,λq6 CJ=>?_⟩
 generalize vF:upd _ q6 _=EA;have uB:=aO CJ vF;have Av:=aT vF;have Ef:=Ee.trans uB;refine ⟨_,rfl,mC λe7 EB uC x7=>?_⟩;have Eg:=Ef.trans uC;refine ⟨_,rfl,by show 2≤sizeLine;decide,λq7 CK=>?_⟩
 generalize vG:upd _ q7 _=EC;have uD:=aO CK vG;have Aw:=aT vG;have Eh:=Eg.trans uD;refine ⟨by show 4≤sizeLine;decide,λR2 Cu=>?_⟩
 generalize vy:upd _ R2 _=ED;have uE:=aO Cu vy;have zY:=aT vy;have Ei:=Eh.trans uE;refine ⟨R1,R2,_,_,rfl,rfl,((((((((v10.trans v11).trans uy).trans uz).trans uA).trans uB).trans uC).trans uD).trans uE) _ _ zX,zY,by show 8≤sizeLine;decide,λR3 Cv=>?_⟩
 generalize vz:upd _ R3 _=EE;have yv:=aO Cv vz;have zZ:=aT vz;have uH:=Ei.trans yv;refine ⟨_,rfl,_,rfl,tp,_,0, .int i2,rfl,rfl,bF.of (uH _ _ bp),az (j:=0) rfl,_,rfl,tp,_,1, .int j2,rfl,rfl,bF.of (uH _ _ bp),az (j:=1) rfl,xt λe8 EF v20 x8=>?_⟩;have yx:=uH.trans v20;refine ⟨_,rfl,tp,_,0, .int i2,rfl,rfl,bF.of (yx _ _ bp),az (j:=0) rfl,by show 2≤sizeLine;decide,λq8 CL=>?_⟩
 generalize vH:upd _ q8 _=EG;have uF:=aO CL vH;have Ax:=aT vH;have Ej:=yx.trans uF;refine ⟨by show 1≤sizeLine;decide,λR4 Cw=>?_⟩
 generalize vA:upd _ R4 _=EH;have uG:=aO Cw vA;have z0:=aT vA;have Ek:=Ej.trans uG;refine ⟨R3,R4,_,_,rfl,rfl,((v20.trans uF).trans uG) _ _ zZ,z0,by show 9≤sizeLine;decide,λR5 Cy=>?_⟩
 generalize vB:upd _ R5 _=si;have yw:=aO Cy vB;have z1:=aT vB;have ES:=Ek.trans yw;have zQ:ak si si:=ak.refl _;have zP:=yw.trans zQ;have vS:=uG.trans zP;have vR:=uF.trans vS;have zO:=v20.trans vR;have zN:=yv.trans zO;have vQ:=uE.trans zN;have vP:=uD.trans vQ;have vO:=uC.trans vP;have vN:=uB.trans vO;have vM:=uA.trans vN;have vL:=uz.trans vM;have vK:=uy.trans vL;have vJ:=v11.trans vK;have f9:=v10.trans vJ;have f8:=v9.trans f9;have f7:=v8.trans f8;have f6:=v7.trans f7;have f5:=v6.trans f6;have f4:=v5.trans f5;have f3:=v4.trans f4;have f2:=v3.trans f3;have f1:=v2.trans f2;have f0:=v1.trans f1;refine rB ⟨t2,tp,tf,ts,r0,R5,e0,e1,e2,e3,e4,e5,e6,e7,e8,q0,q1,q2,q3,q4,q5,q6,q7,q8,i,j,i2,j2,fa,fb,sa,sb,sc,c4%14,c5%14,c6%24,c7%14,x⟩ a Sm si ?_;exact ⟨xS,f0 _ _ b2,f0 _ _ bp,f0 _ _ bf,f0 _ _ bs,f1 _ _ wJ,x0.same f1,x1.same f3,x2.same f5,x3.same f7,x4.same vJ,x5.same vL,x6.same vN,x7.same vP,x8.same vR,z1,f2 _ _ Ao,f4 _ _ Ap,f6 _ _ Aq,f8 _ _ Ar,vK _ _ As,vM _ _ Au,vO _ _ Av,vQ _ _ Aw,vS _ _ Ax⟩
end
section
variable {P:Program} {w:World} {K:PySem.W.Frag} {mg:Str→Option Value} {base:Heap} {M:Addr} {c:Cs}
theorem qD{f:Addr}{fd:FuncData}(B:jl mg)(T:Txt K mg M c)(N:NA K c)(Dc:pO ⟨K,0⟩ mg)(Ce:cW K mg "_law_cell" dN ["_law_script","_law_k"])(Tw:cW K mg "_law_two" fV ["_law_cell_here","_law_many"])
  (Fa:cW K mg "_law_fault" cR ["_law_cell_here","_law_two_here"]) (Co:cW K mg "_law_count" cQ ["_law_cell_here"]) (Kd:cW K mg "_law_kinds" cS ["_law_e"]) (S:cW K mg "_law_same" dP ["_law_found","_law_due"]) (I0:dw K c.noWeb "NoWeb.__init__" cT ["self","fault"]) (I1:dw K c.notPlane "NotPlane.__init__" bw ["self","counted"]) (I2:dw K c.alike "Alike.__init__" cP ["self","one","other"]) (I3:dw K c.tooFew "TooFew.__init__" cc ["self","point"]) (I4:dw K c.notFree "NotFree.__init__" bM ["self","point"]) (I5:dw K c.notFilled "NotFilled.__init__" ba ["self","land"]) (I6:dw K c.odd "Odd.__init__" fU ["self","point"]) (I7:dw K c.bridge "Bridge.__init__" bZ ["self","tie"]) (I8:dw K c.shared "Shared.__init__" b7 ["self","one","other"])
  (m9:bI K c.tooMany (.builtin "ValueError.__init__")) (tX:bI K c.tooSmall (.builtin "ValueError.__init__")) (tY:bI K c.noText (.builtin "ValueError.__init__")) (tZ:bI K c.noCorner (.builtin "ValueError.__init__")) (t4:bI K c.noRing (.builtin "ValueError.__init__"))
  (F:df K "law" "law" bL f fd):FnOk P w K mg base bE 5 f fd ["_law_script"] (jd K):=by
 refine F.ok jb (λvs H Q E h=>?_) (λcdv A outer s H vs Q E hr h=>?_)
 ·obtain ⟨a,ns,rfl,_⟩:=h
  rfl
 obtain ⟨a,ns,rfl,hS,qb,q⟩:=h;obtain ⟨tC,pC,rC⟩:=tV (P:=P) (w:=w) (base:=base) (f:=f) (cdv:=cdv) (A:=A) (outer:=outer) (s:=s) (H:=H) (E:=E) (Q:=Q) B T S N.nf N.nc N.no N.no' N.n3 N.n4 N.n5 N.n6 N.n7 N.n8 N.n8' hr q;obtain ⟨tB,pB,rB⟩:=tU B T Kd m9 tX tY tZ t4 hr pC rC;exact tT B T N Dc Ce Tw Fa Co I0 I1 I2 I3 I4 I5 I6 I7 I8 hr pB rB hS qb
end
structure aN (K:PySem.W.Frag) (M C:Addr):Prop where
 ec:Ec K C
 call:PySem.W.specialIn K (.ref C) "__call__"=some (some (.builtin "type.__call__"))
 typ:PySem.W.instIn K (.ref C) (.type "type")=some true
 kp:PySem.W.keepIn K (.ref C)=true
 ty:PySem.W.typeIn K (.ref C)=some (.type "type")
 mro:∃cd,PySem.W.clsIn K C=some cd∧cd.mro= [.ref C, .ref M, .type "ValueError", .type "Exception", .type "BaseException", .type "object"]
theorem aL{K:PySem.W.Frag}{M C N:Addr}{cd:ClassData}{nm q:Str}{bs bm:List Value}{cJ:Bool}{sn:List Str}{sub:List Value}{ab:Bool}{col:Option Bool}{dd:Option Addr}{k0 k1 k2 k3 k5:Option Value}
  (hd:PySem.W.hasDictIn K C=true) (ga:PySem.W.findIn K (.ref C) "__getattribute__"=some (some (.builtin "BaseException.__getattribute__"))) (gh:PySem.W.findIn K (.ref C) "__getattr__"=some none)
  (sa:PySem.W.findIn K (.ref C) "__setattr__"=some (some (.builtin "object.__setattr__"))) (cl:PySem.W.findIn K (.ref C) "__class__"=some (some (.builtin "object.__class__")))
  (cq:PySem.W.clsIn K C=some cd) (cm:cd.mro= [.ref C, .ref M, .type "ValueError", .type "Exception", .type "BaseException", .type "object"])
  (lo:K.lookup C=some (excClassObj nm q C N bs bm cJ sn sub ab col dd k0 k1 k2 k3 k5 "ValueError.__new__")) (cb:bm= [.ref M, .type "ValueError", .type "Exception", .type "BaseException", .type "object"])
  (call:PySem.W.specialIn K (.ref C) "__call__"=some (some (.builtin "type.__call__"))) (typ:PySem.W.instIn K (.ref C) (.type "type")=some true) (kp:PySem.W.keepIn K (.ref C)=true) (ty:PySem.W.typeIn K (.ref C)=some (.type "type")):aN K M C:=by
 have mro:∀b,PySem.W.mroIn K C b=some (([.ref C, .ref M, .type "ValueError", .type "Exception", .type "BaseException", .type "object"]:List Value).contains b):=λb=>by
  unfold PySem.W.mroIn;rw [cq,iL,cm];rfl
 refine ⟨⟨⟨hd,ga,gh,sa,?_,cl,?_,?_⟩,⟨nm,q,N,bs,bm,cJ,sn,sub,ab,col,dd,k0,k1,k2,k3,k5,lo,?_,?_,?_⟩⟩,call,typ,kp,ty,cd,cq,cm⟩
 ·unfold lH
  rw [cq];show ft cd.mro=true;rw [cm];rfl
 ·rw [mro];rfl
 ·rw [mro];rfl
 ·rw [cb];rfl
 ·rw [cb];rfl
 ·rw [cb];rfl
theorem jL{K:PySem.W.Frag}{M C D:Addr}{b:Bool}(e:aN K M C)(hD:(PySem.W.clsIn K D).isSome=true)(tD:PySem.W.typeIn K (.ref D)=some (.type "type"))(ne:C≠D)(h:([.ref C, .ref M, .type "ValueError", .type "Exception", .type "BaseException", .type "object"]:List Value).contains (.ref D)=b):
  PySem.W.kitOne K (.ref C) (.ref D)=some b:=by
 obtain ⟨cd,cq,cm⟩:=e.mro;unfold PySem.W.kitOne;rw [if_neg (λz=>ne (Value.ref.inj (beq_iff_eq.mp z)))];show (if ((PySem.W.clsIn K D).isSome&&PySem.W.typeIn K (.ref D)==some (.type "type"))=true then PySem.W.subIn K (.ref C) (.ref D) else none)=some b;rw [hD,tD,if_pos (by decide)]
 show PySem.W.mroIn K C (.ref D)=some b;unfold PySem.W.mroIn;rw [cq,iL,cm,h];rfl
theorem qt{K:PySem.W.Frag}{M C:Addr}(e:aN K M C):PySem.W.kitOne K (.ref C) (.type "ValueError")=some true:=by
 obtain ⟨cd,cq,cm⟩:=e.mro;unfold PySem.W.kitOne;rw [if_neg (λz=>by cases beq_iff_eq.mp z)]
 show (if PySem.W.kitMeta "ValueError"=true then PySem.W.subIn K (.ref C) (.type "ValueError") else none)=some true;rw [if_pos (by decide+kernel)]
 show PySem.W.mroIn K C (.type "ValueError")=some true;unfold PySem.W.mroIn;rw [cq,iL,cm];rfl
theorem aN.some{K:PySem.W.Frag}{M C:Addr}(e:aN K M C):(PySem.W.clsIn K C).isSome=true:=by
 obtain ⟨cd,cq,_⟩:=e.mro;rw [cq];rfl
theorem bI.of{K:PySem.W.Frag}{M C:Addr}{v:Value}(e:aN K M C)(h:PySem.W.findIn K (.ref C) "__init__"=some (some v)):bI K C v:=⟨e.ec.xo,e.call,e.typ,h,e.kp⟩
theorem all_mk{l:PySem.W.OpenLaw}{w:World}{K:PySem.W.Frag}{h:Heap}{mg:Str→Option Value}{fa M C0 C1 C2 C3 C4 C5 C6 C7 C8 C9 lV lW lX lY:Addr}{tk:Tok}(X:K.In h)(G:h.Ns mainGlobals mg)(Aa:mg "law"=some (.ref fa))
  {e0:Addr} {Dt y1:Option Addr} {DP:Array (Option Value)} {zB zz zD zF rq zJ:Value}
  {e1:Addr} {Du y2:Option Addr} {DQ:Array (Option Value)} {zC zA zE zG rz zK:Value}
  {d0:Addr} {Dh yT:Option Addr} {DR:Array (Option Value)} {CU B7 zi Dy u4 y9:Value}
  {d1:Addr} {Di yU:Option Addr} {DS:Array (Option Value)} {CV B8 zj Dz u5 za:Value}
  {d2:Addr} {Dj yV:Option Addr} {DU:Array (Option Value)} {CW B9 zk DB u6 zb:Value}
  {d3:Addr} {Dk yW:Option Addr} {DV:Array (Option Value)} {CY Ca zl DD u7 zc:Value}
  {d4:Addr} {Dl yX:Option Addr} {DW:Array (Option Value)} {CZ Cb zm DF va zd:Value}
  {d5:Addr} {Dq yY:Option Addr} {DX:Array (Option Value)} {De Cc zo DH vb ze:Value}
  {d6:Addr} {Dr yZ:Option Addr} {DY:Array (Option Value)} {Df Cd zp DJ vc zf:Value}
  {d7:Addr} {Ds u3:Option Addr} {DZ:Array (Option Value)} {Dg xk vq xU sy vd:Value}
  {i0:Addr} {A4 Bm:Option Addr} {BO:Array (Option Value)} {AV Bd Bw BF wW BY:Value}
  {i1:Addr} {A5 Bn:Option Addr} {BP:Array (Option Value)} {AW Be Bx BG wX BZ:Value}
  {i2:Addr} {A6 Bo:Option Addr} {BQ:Array (Option Value)} {AX Bf By BH wY B0:Value}
  {i3:Addr} {A7 Bp:Option Addr} {BR:Array (Option Value)} {AY Bg Bz BI wZ B1:Value}
  {i4:Addr} {A8 Bq:Option Addr} {BS:Array (Option Value)} {AZ Bh BA BJ xb B2:Value}
  {i5:Addr} {A9 Br:Option Addr} {BU:Array (Option Value)} {A0 Bi BB BK xf B3:Value}
  {i6:Addr} {Ba Bt:Option Addr} {BV:Array (Option Value)} {A1 Bj BC BL xg B4:Value}
  {i7:Addr} {Bb Bu:Option Addr} {BW:Array (Option Value)} {A2 Bk BD BM xh B5:Value}
  {i8:Addr} {Bc Bv:Option Addr} {BX:Array (Option Value)} {A3 Bl BE BN xi B6:Value}
  (a0:PySem.W.nsIn K mainGlobals "copied"=some (some (.ref d0)))
  (l0:K.lookup d0=some ⟨CU,Dh, .func (PySem.W.fnOf "copied" "copied" (aF dO) (aw dO) (ag dO) .none B7 zi Dy yT u4 y9),DR⟩)
  (c0:PySem.W.codeIn K u4 "copied"=true)
  (k0:PySem.W.keepIn K (.ref d0)=true)
  (a1:PySem.W.nsIn K mainGlobals "_law_cell"=some (some (.ref d1)))
  (l1:K.lookup d1=some ⟨CV,Di, .func (PySem.W.fnOf "_law_cell" "_law_cell" (aF dN) (aw dN) (ag dN) .none B8 zj Dz yU u5 za),DS⟩)
  (c1:PySem.W.codeIn K u5 "_law_cell"=true)
  (k1:PySem.W.keepIn K (.ref d1)=true)
  (a2:PySem.W.nsIn K mainGlobals "_law_two"=some (some (.ref d2)))
  (l2:K.lookup d2=some ⟨CW,Dj, .func (PySem.W.fnOf "_law_two" "_law_two" (aF fV) (aw fV) (ag fV) .none B9 zk DB yV u6 zb),DU⟩)
  (c2:PySem.W.codeIn K u6 "_law_two"=true)
  (k2:PySem.W.keepIn K (.ref d2)=true)
  (a3:PySem.W.nsIn K mainGlobals "_law_fault"=some (some (.ref d3)))
  (l3:K.lookup d3=some ⟨CY,Dk, .func (PySem.W.fnOf "_law_fault" "_law_fault" (aF cR) (aw cR) (ag cR) .none Ca zl DD yW u7 zc),DV⟩)
  (c3:PySem.W.codeIn K u7 "_law_fault"=true)
  (k3:PySem.W.keepIn K (.ref d3)=true)
  (a4:PySem.W.nsIn K mainGlobals "_law_count"=some (some (.ref d4)))
  (l4:K.lookup d4=some ⟨CZ,Dl, .func (PySem.W.fnOf "_law_count" "_law_count" (aF cQ) (aw cQ) (ag cQ) .none Cb zm DF yX va zd),DW⟩)
  (c4:PySem.W.codeIn K va "_law_count"=true)
  (k4:PySem.W.keepIn K (.ref d4)=true)
  (a5:PySem.W.nsIn K mainGlobals "_law_kinds"=some (some (.ref d5)))
  (l5:K.lookup d5=some ⟨De,Dq, .func (PySem.W.fnOf "_law_kinds" "_law_kinds" (aF cS) (aw cS) (ag cS) .none Cc zo DH yY vb ze),DX⟩)
  (c5:PySem.W.codeIn K vb "_law_kinds"=true)
  (k5:PySem.W.keepIn K (.ref d5)=true)
  (a6:PySem.W.nsIn K mainGlobals "_law_same"=some (some (.ref d6)))
  (l6:K.lookup d6=some ⟨Df,Dr, .func (PySem.W.fnOf "_law_same" "_law_same" (aF dP) (aw dP) (ag dP) .none Cd zp DJ yZ vc zf),DY⟩)
  (c6:PySem.W.codeIn K vc "_law_same"=true)
  (k6:PySem.W.keepIn K (.ref d6)=true)
  (a7:PySem.W.nsIn K mainGlobals "law"=some (some (.ref d7)))
  (l7:K.lookup d7=some ⟨Dg,Ds, .func (PySem.W.fnOf "law" "law" (aF bL) (aw bL) (ag bL) .none xk vq xU u3 sy vd),DZ⟩)
  (c7:PySem.W.codeIn K sy "law"=true)
  (k7:PySem.W.keepIn K (.ref d7)=true)
  (aM:PySem.W.nsIn K mainGlobals "MapError"=some (some (.ref M)))
  (sgM:PySem.W.specialIn K (.ref M) "__getattribute__"=some (some (.builtin "type.__getattribute__")))
  (rdM:PySem.W.readsIn K M (.type "type")=true)
  (fcM:PySem.W.findCls K (.ref M) (.type "type") "__init__"=some (.val (.builtin "ValueError.__init__")))
  (tyM:PySem.W.typeIn K (.ref M)=some (.type "type"))
  (clM:PySem.W.isClsIn K M=true)
  (hn:PySem.W.specialIn K (.builtin "object.__class__") "__get__"=some (some (.builtin "getset_descriptor.__get__")))
  (htk:PySem.W.takesIn K (.builtin "object.__class__")=some true)
  (mc:PySem.W.nsIn K mainGlobals "MOST_COPIED"=some (some (.int 1000000 tk)))
  (zrange:PySem.W.nsIn K mainGlobals "range"=some none)
  (zenumerate:PySem.W.nsIn K mainGlobals "enumerate"=some none)
  (zall:PySem.W.nsIn K mainGlobals "all"=some none)
  (zisinstance:PySem.W.nsIn K mainGlobals "isinstance"=some none)
  (zbool:PySem.W.nsIn K mainGlobals "bool"=some none)
  (zlist:PySem.W.nsIn K mainGlobals "list"=some none)
  (ztuple:PySem.W.nsIn K mainGlobals "tuple"=some none)
  (zdict:PySem.W.nsIn K mainGlobals "dict"=some none)
  (zValueError:PySem.W.nsIn K mainGlobals "ValueError"=some none)
  (zlen:PySem.W.nsIn K mainGlobals "len"=some none)
  (zreversed:PySem.W.nsIn K mainGlobals "reversed"=some none)
  (ea0:PySem.W.nsIn K mainGlobals "nested_places"=some (some (.ref e0)))
  (el0:K.lookup e0=some ⟨zB,Dt, .func (PySem.W.fnOf "nested_places" "nested_places" (aF gP) (aw gP) (ag gP) .none zz zD zF y1 rq zJ),DP⟩)
  (ecc0:PySem.W.codeIn K rq "nested_places"=true)
  (ek0:PySem.W.keepIn K (.ref e0)=true)
  (ea1:PySem.W.nsIn K mainGlobals "own_of"=some (some (.ref e1)))
  (el1:K.lookup e1=some ⟨zC,Du, .func (PySem.W.fnOf "own_of" "own_of" (aF jZ) (aw jZ) (ag jZ) .none zA zE zG y2 rz zK),DQ⟩)
  (ecc1:PySem.W.codeIn K rz "own_of"=true)
  (ek1:PySem.W.keepIn K (.ref e1)=true)
  (gNoWeb:PySem.W.nsIn K mainGlobals "NoWeb"=some (some (.ref C0)))
  (eNoWeb:aN K M C0)
  (nNoWeb:PySem.W.findIn K (.ref C0) "__init__"=some (some (.ref i0)))
  (fNoWeb:PySem.W.isFn K (.ref i0)=true)
  (lNoWeb:K.lookup i0=some ⟨AV,A4, .func (PySem.W.fnOf "__init__" "NoWeb.__init__" (aF cT) (aw cT) (ag cT) .none Bd Bw BF Bm wW BY),BO⟩)
  (cNoWeb:PySem.W.codeIn K wW "NoWeb.__init__"=true)
  (kNoWeb:PySem.W.keepIn K (.ref i0)=true)
  (aNoWebfault:PySem.W.findIn K (.ref C0) "fault"=some none)
  (gNotPlane:PySem.W.nsIn K mainGlobals "NotPlane"=some (some (.ref C1)))
  (eNotPlane:aN K M C1)
  (nNotPlane:PySem.W.findIn K (.ref C1) "__init__"=some (some (.ref i1)))
  (fNotPlane:PySem.W.isFn K (.ref i1)=true)
  (lNotPlane:K.lookup i1=some ⟨AW,A5, .func (PySem.W.fnOf "__init__" "NotPlane.__init__" (aF bw) (aw bw) (ag bw) .none Be Bx BG Bn wX BZ),BP⟩)
  (cNotPlane:PySem.W.codeIn K wX "NotPlane.__init__"=true)
  (kNotPlane:PySem.W.keepIn K (.ref i1)=true)
  (aNotPlanecounted:PySem.W.findIn K (.ref C1) "counted"=some none)
  (gAlike:PySem.W.nsIn K mainGlobals "Alike"=some (some (.ref C2)))
  (eAlike:aN K M C2)
  (nAlike:PySem.W.findIn K (.ref C2) "__init__"=some (some (.ref i2)))
  (fAlike:PySem.W.isFn K (.ref i2)=true)
  (lAlike:K.lookup i2=some ⟨AX,A6, .func (PySem.W.fnOf "__init__" "Alike.__init__" (aF cP) (aw cP) (ag cP) .none Bf By BH Bo wY B0),BQ⟩)
  (cAlike:PySem.W.codeIn K wY "Alike.__init__"=true)
  (kAlike:PySem.W.keepIn K (.ref i2)=true)
  (aAlikeone:PySem.W.findIn K (.ref C2) "one"=some none)
  (aAlikeother:PySem.W.findIn K (.ref C2) "other"=some none)
  (gTooFew:PySem.W.nsIn K mainGlobals "TooFew"=some (some (.ref C3)))
  (eTooFew:aN K M C3)
  (nTooFew:PySem.W.findIn K (.ref C3) "__init__"=some (some (.ref i3)))
  (fTooFew:PySem.W.isFn K (.ref i3)=true)
  (lTooFew:K.lookup i3=some ⟨AY,A7, .func (PySem.W.fnOf "__init__" "TooFew.__init__" (aF cc) (aw cc) (ag cc) .none Bg Bz BI Bp wZ B1),BR⟩)
  (cTooFew:PySem.W.codeIn K wZ "TooFew.__init__"=true)
  (kTooFew:PySem.W.keepIn K (.ref i3)=true)
  (aTooFewpoint:PySem.W.findIn K (.ref C3) "point"=some none)
  (gNotFree:PySem.W.nsIn K mainGlobals "NotFree"=some (some (.ref C4)))
  (eNotFree:aN K M C4)
  (nNotFree:PySem.W.findIn K (.ref C4) "__init__"=some (some (.ref i4)))
  (fNotFree:PySem.W.isFn K (.ref i4)=true)
  (lNotFree:K.lookup i4=some ⟨AZ,A8, .func (PySem.W.fnOf "__init__" "NotFree.__init__" (aF bM) (aw bM) (ag bM) .none Bh BA BJ Bq xb B2),BS⟩)
  (cNotFree:PySem.W.codeIn K xb "NotFree.__init__"=true)
  (kNotFree:PySem.W.keepIn K (.ref i4)=true)
  (aNotFreepoint:PySem.W.findIn K (.ref C4) "point"=some none)
  (gNotFilled:PySem.W.nsIn K mainGlobals "NotFilled"=some (some (.ref C5)))
  (eNotFilled:aN K M C5)
  (nNotFilled:PySem.W.findIn K (.ref C5) "__init__"=some (some (.ref i5)))
  (fNotFilled:PySem.W.isFn K (.ref i5)=true)
  (lNotFilled:K.lookup i5=some ⟨A0,A9, .func (PySem.W.fnOf "__init__" "NotFilled.__init__" (aF ba) (aw ba) (ag ba) .none Bi BB BK Br xf B3),BU⟩)
  (cNotFilled:PySem.W.codeIn K xf "NotFilled.__init__"=true)
  (kNotFilled:PySem.W.keepIn K (.ref i5)=true)
  (aNotFilledland:PySem.W.findIn K (.ref C5) "land"=some none)
  (gOdd:PySem.W.nsIn K mainGlobals "Odd"=some (some (.ref C6)))
  (eOdd:aN K M C6)
  (nOdd:PySem.W.findIn K (.ref C6) "__init__"=some (some (.ref i6)))
  (fOdd:PySem.W.isFn K (.ref i6)=true)
  (lOdd:K.lookup i6=some ⟨A1,Ba, .func (PySem.W.fnOf "__init__" "Odd.__init__" (aF fU) (aw fU) (ag fU) .none Bj BC BL Bt xg B4),BV⟩)
  (cOdd:PySem.W.codeIn K xg "Odd.__init__"=true)
  (kOdd:PySem.W.keepIn K (.ref i6)=true)
  (aOddpoint:PySem.W.findIn K (.ref C6) "point"=some none)
  (gBridge:PySem.W.nsIn K mainGlobals "Bridge"=some (some (.ref C7)))
  (eBridge:aN K M C7)
  (nBridge:PySem.W.findIn K (.ref C7) "__init__"=some (some (.ref i7)))
  (fBridge:PySem.W.isFn K (.ref i7)=true)
  (lBridge:K.lookup i7=some ⟨A2,Bb, .func (PySem.W.fnOf "__init__" "Bridge.__init__" (aF bZ) (aw bZ) (ag bZ) .none Bk BD BM Bu xh B5),BW⟩)
  (cBridge:PySem.W.codeIn K xh "Bridge.__init__"=true)
  (kBridge:PySem.W.keepIn K (.ref i7)=true)
  (aBridgetie:PySem.W.findIn K (.ref C7) "tie"=some none)
  (gShared:PySem.W.nsIn K mainGlobals "Shared"=some (some (.ref C8)))
  (eShared:aN K M C8)
  (nShared:PySem.W.findIn K (.ref C8) "__init__"=some (some (.ref i8)))
  (fShared:PySem.W.isFn K (.ref i8)=true)
  (lShared:K.lookup i8=some ⟨A3,Bc, .func (PySem.W.fnOf "__init__" "Shared.__init__" (aF b7) (aw b7) (ag b7) .none Bl BE BN Bv xi B6),BX⟩)
  (cShared:PySem.W.codeIn K xi "Shared.__init__"=true)
  (kShared:PySem.W.keepIn K (.ref i8)=true)
  (aSharedone:PySem.W.findIn K (.ref C8) "one"=some none)
  (aSharedother:PySem.W.findIn K (.ref C8) "other"=some none)
  (gTooMany:PySem.W.nsIn K mainGlobals "TooMany"=some (some (.ref C9)))
  (eTooMany:aN K M C9)
  (nTooMany:PySem.W.findIn K (.ref C9) "__init__"=some (some (.builtin "ValueError.__init__")))
  (gTooSmall:PySem.W.nsIn K mainGlobals "TooSmall"=some (some (.ref lV)))
  (eTooSmall:aN K M lV)
  (nTooSmall:PySem.W.findIn K (.ref lV) "__init__"=some (some (.builtin "ValueError.__init__")))
  (gNoText:PySem.W.nsIn K mainGlobals "NoText"=some (some (.ref lW)))
  (eNoText:aN K M lW)
  (nNoText:PySem.W.findIn K (.ref lW) "__init__"=some (some (.builtin "ValueError.__init__")))
  (gNoCorner:PySem.W.nsIn K mainGlobals "NoCorner"=some (some (.ref lX)))
  (eNoCorner:aN K M lX)
  (nNoCorner:PySem.W.findIn K (.ref lX) "__init__"=some (some (.builtin "ValueError.__init__")))
  (gNoRing:PySem.W.nsIn K mainGlobals "NoRing"=some (some (.ref lY)))
  (eNoRing:aN K M lY)
  (nNoRing:PySem.W.findIn K (.ref lY) "__init__"=some (some (.builtin "ValueError.__init__")))
  (nd:([M,C0,C1,C2,C3,C4,C5,C6,C7,C8,C9,lV,lW,lX,lY]:List Addr).Nodup)
  :∃fd:FuncData,(∀(s:Shared)(v:Value),BindsTo s fd ⟨[v],[]⟩ [("_law_script",v)])∧∀base:Heap,K.In base→base.Ns mainGlobals mg→FnOk l.prog w K mg base bE 5 fa fd ["_law_script"] (jd K):=by
 have e:=Aa.symm.trans (PySem.W.mg_of X G a7);cases e;have F0:=aS (st:=dO) l0 c0 k0;have b0:=F0.binds (ps:= ["thing"]) λ_ _ _ _ _ _ us hl=>match us,hl with| [_],_=>rfl
 have F8:=aS (st:=gP) el0 ecc0 ek0;have b8:=F8.binds (ps:= ["holder"]) λ_ _ _ _ _ _ us hl=>match us,hl with| [_],_=>rfl
 have F9:=aS (st:=jZ) el1 ecc1 ek1;have b9:=F9.binds (ps:= ["held","left"]) λ_ _ _ _ _ _ us hl=>match us,hl with| [_,_],_=>rfl
 have F1:=aS (st:=dN) l1 c1 k1;have b1:=F1.binds (ps:= ["_law_script","_law_k"]) λ_ _ _ _ _ _ us hl=>match us,hl with| [_,_],_=>rfl
 have F2:=aS (st:=fV) l2 c2 k2;have b2:=F2.binds (ps:= ["_law_cell_here","_law_many"]) λ_ _ _ _ _ _ us hl=>match us,hl with| [_,_],_=>rfl
 have F3:=aS (st:=cR) l3 c3 k3;have b3:=F3.binds (ps:= ["_law_cell_here","_law_two_here"]) λ_ _ _ _ _ _ us hl=>match us,hl with| [_,_],_=>rfl
 have F4:=aS (st:=cQ) l4 c4 k4;have b4:=F4.binds (ps:= ["_law_cell_here"]) λ_ _ _ _ _ _ us hl=>match us,hl with| [_],_=>rfl
 have F5:=aS (st:=cS) l5 c5 k5;have b5:=F5.binds (ps:= ["_law_e"]) λ_ _ _ _ _ _ us hl=>match us,hl with| [_],_=>rfl
 have F6:=aS (st:=dP) l6 c6 k6;have b6:=F6.binds (ps:= ["_law_found","_law_due"]) λ_ _ _ _ _ _ us hl=>match us,hl with| [_,_],_=>rfl
 have F7:=aS (st:=bL) l7 c7 k7;have J0:=aS (st:=cT) lNoWeb cNoWeb kNoWeb;have AK:=J0.binds (ps:= ["self","fault"]) λ_ _ _ _ _ _ us hl=>match us,hl with| [_,_],_=>rfl
 have J1:=aS (st:=bw) lNotPlane cNotPlane kNotPlane;have AL:=J1.binds (ps:= ["self","counted"]) λ_ _ _ _ _ _ us hl=>match us,hl with| [_,_],_=>rfl
 have J2:=aS (st:=cP) lAlike cAlike kAlike;have AM:=J2.binds (ps:= ["self","one","other"]) λ_ _ _ _ _ _ us hl=>match us,hl with| [_,_,_],_=>rfl
 have J3:=aS (st:=cc) lTooFew cTooFew kTooFew;have AN:=J3.binds (ps:= ["self","point"]) λ_ _ _ _ _ _ us hl=>match us,hl with| [_,_],_=>rfl
 have J4:=aS (st:=bM) lNotFree cNotFree kNotFree;have AO:=J4.binds (ps:= ["self","point"]) λ_ _ _ _ _ _ us hl=>match us,hl with| [_,_],_=>rfl
 have J5:=aS (st:=ba) lNotFilled cNotFilled kNotFilled;have AQ:=J5.binds (ps:= ["self","land"]) λ_ _ _ _ _ _ us hl=>match us,hl with| [_,_],_=>rfl
 have J6:=aS (st:=fU) lOdd cOdd kOdd;have AR:=J6.binds (ps:= ["self","point"]) λ_ _ _ _ _ _ us hl=>match us,hl with| [_,_],_=>rfl
 have J7:=aS (st:=bZ) lBridge cBridge kBridge;have AS:=J7.binds (ps:= ["self","tie"]) λ_ _ _ _ _ _ us hl=>match us,hl with| [_,_],_=>rfl
 have J8:=aS (st:=b7) lShared cShared kShared;have AU:=J8.binds (ps:= ["self","one","other"]) λ_ _ _ _ _ _ us hl=>match us,hl with| [_,_,_],_=>rfl
 have B:jl mg:=⟨PySem.W.mg_none_of X G zrange,PySem.W.mg_none_of X G zenumerate,PySem.W.mg_none_of X G zall,PySem.W.mg_none_of X G zisinstance,PySem.W.mg_none_of X G zbool,PySem.W.mg_none_of X G zlist,PySem.W.mg_none_of X G ztuple,PySem.W.mg_none_of X G zdict,PySem.W.mg_none_of X G zValueError,PySem.W.mg_none_of X G zlen,PySem.W.mg_none_of X G zreversed⟩
 let c:Cs:=⟨C0,C1,C2,C3,C4,C5,C6,C7,C8,C9,lV,lW,lX,lY⟩
 have CB:c.list.Nodup:=(iM.mp nd).2
 have hE:∀C∈c.list,aN K M C:=by
  intro C hC;have vW:C∈ [C0,C1,C2,C3,C4,C5,C6,C7,C8,C9,lV,lW,lX,lY]:=hC;simp only [cF,List.not_mem_nil,or_false] at vW
  rcases vW with rfl|rfl|rfl|rfl|rfl|rfl|rfl|rfl|rfl|rfl|rfl|rfl|rfl|rfl
  ·exact eNoWeb
  ·exact eNotPlane
  ·exact eAlike
  ·exact eTooFew
  ·exact eNotFree
  ·exact eNotFilled
  ·exact eOdd
  ·exact eBridge
  ·exact eShared
  ·exact eTooMany
  ·exact eTooSmall
  ·exact eNoText
  ·exact eNoCorner
  ·exact eNoRing
 have nM:∀C∈c.list,C≠M:=λC hC z=>(iM.mp nd).1 (z▸hC);have T:Txt K mg M c:=⟨PySem.W.mg_of X G gNoWeb,PySem.W.mg_of X G gNotPlane,PySem.W.mg_of X G gAlike,PySem.W.mg_of X G gTooFew,PySem.W.mg_of X G gNotFree,PySem.W.mg_of X G gNotFilled,PySem.W.mg_of X G gOdd,PySem.W.mg_of X G gBridge,PySem.W.mg_of X G gShared,PySem.W.mg_of X G gTooMany,PySem.W.mg_of X G gTooSmall,PySem.W.mg_of X G gNoText,PySem.W.mg_of X G gNoCorner,PySem.W.mg_of X G gNoRing,⟨PySem.W.mg_of X G aM,sgM,rdM,fcM⟩,hn,htk,λC hC=>(hE C hC).ec,CB,λC hC D hD=>?kn,λC hC=>?km,λC hC=>qt (hE C hC)⟩
 case kn=>
  by_cases z:D=C
  ·subst z
   rw [decide_eq_true rfl];unfold PySem.W.kitOne;rw [if_pos (beq_self_eq_true _)]
  ·rw [decide_eq_false z]
   refine jL (hE C hC) (hE D hD).some (hE D hD).ty (λy=>z y.symm) ?_;have n1:(Value.ref D==Value.ref C)=false:=by rw [beq_eq_false_iff_ne];intro y;exact z (Value.ref.inj y)
   have n2:(Value.ref D==Value.ref M)=false:=by rw [beq_eq_false_iff_ne];intro y;exact nM D hD (Value.ref.inj y)
   rw [lU,lU,n1,n2];rfl
 case km=>
  refine jL (hE C hC) clM tyM (nM C hC) ?_;rw [lU,lU,beq_self_eq_true,Bool.true_or,Bool.or_true]
 have N:NA K c:=⟨aNoWebfault,aNotPlanecounted,aAlikeone,aAlikeother,aTooFewpoint,aNotFreepoint,aNotFilledland,aOddpoint,aBridgetie,aSharedone,aSharedother⟩;exact ⟨PySem.W.fnOf "law" "law" (aF bL) (aw bL) (ag bL) .none xk vq xU u3 sy vd,λs v=> .of_eq rfl,λbase _ _=>qD B T N ⟨B,⟨e0,_,F8,b8,PySem.W.mg_of X G ea0⟩,⟨e1,_,F9,b9,PySem.W.mg_of X G ea1⟩,⟨d0,_,F0,b0,PySem.W.mg_of X G a0⟩,tk,PySem.W.mg_of X G mc⟩ ⟨d1,_,F1,b1,PySem.W.mg_of X G a1⟩ ⟨d2,_,F2,b2,PySem.W.mg_of X G a2⟩ ⟨d3,_,F3,b3,PySem.W.mg_of X G a3⟩ ⟨d4,_,F4,b4,PySem.W.mg_of X G a4⟩ ⟨d5,_,F5,b5,PySem.W.mg_of X G a5⟩ ⟨d6,_,F6,b6,PySem.W.mg_of X G a6⟩ ⟨i0,_,J0,AK,bI.of eNoWeb nNoWeb,fNoWeb⟩ ⟨i1,_,J1,AL,bI.of eNotPlane nNotPlane,fNotPlane⟩ ⟨i2,_,J2,AM,bI.of eAlike nAlike,fAlike⟩ ⟨i3,_,J3,AN,bI.of eTooFew nTooFew,fTooFew⟩ ⟨i4,_,J4,AO,bI.of eNotFree nNotFree,fNotFree⟩ ⟨i5,_,J5,AQ,bI.of eNotFilled nNotFilled,fNotFilled⟩ ⟨i6,_,J6,AR,bI.of eOdd nOdd,fOdd⟩ ⟨i7,_,J7,AS,bI.of eBridge nBridge,fBridge⟩ ⟨i8,_,J8,AU,bI.of eShared nShared,fShared⟩ (bI.of eTooMany nTooMany) (bI.of eTooSmall nTooSmall) (bI.of eNoText nNoText) (bI.of eNoCorner nNoCorner) (bI.of eNoRing nNoRing) F7⟩
theorem walk{l:PySem.W.OpenLaw}{q:Program}{loose:List Str}{XP:(Str→Option Value)→Heap→Prop}{YP:World→Heap→Prop}{d:DefRec}{K:Params→PySem.W.Frag}(hn:l.most=some 63)(nY:d.params.defaults= [])
  (hY:∀(w:World)(h:Heap),YP w h→(K w.params).In h)
  (F:∀(w:World)(mg:Str→Option Value)(fa:Addr)(h:Heap),(K w.params).In h→h.Ns mainGlobals mg→mg d.name=some (.ref fa)→
   ∃fd:FuncData,(∀(s:Shared)(u:Value),BindsTo s fd ⟨[u],[]⟩ [("_law_script",u)])∧∀base:Heap,(K w.params).In base→base.Ns mainGlobals mg→FnOk l.prog w (K w.params) mg base bE 5 fa fd ["_law_script"] (jd (K w.params))):
  PySem.W.WalkO q loose XP YP l.row.toRowW d [] (λf vs=>PySem.call f vs):=
 L2.pI (n:=63) (k:=5) (x:="_law_script") (CX:=λ_=>bE) (sp:=λw=>jd (K w.params)) hn (by decide) nY ⟨rfl,by decide,by decide⟩ hY F (λ_ _ a ns hl _ hS=>⟨a,ns,rfl,hS,hl,λ_=>rfl⟩) λ_ _ _ _ _ z=>z
end dg
def PySem.W.Fast.tw12636745736140215154:Nat:=0
def PySem.W.Fast.tw6478803819334339692:Nat:=0
def PySem.W.Fast.tw8515619724150569882:Nat:=0
def PySem.W.Fast.tw14195347929020529927:Nat:=0
def PySem.W.Fast.tw11539807923992463619:Nat:=0
def PySem.W.Fast.tw13108697175228665614:Nat:=0
def PySem.W.Fast.tw489630061926358859:Nat:=0
def PySem.W.Fast.tw7802316318155626209:Nat:=0
def PySem.W.Fast.tw15031321547757462072:Nat:=0
def PySem.W.Fast.tw2829837109416171973:Nat:=0
def PySem.W.Fast.tw6293253045246668103:Nat:=0
def PySem.W.Fast.tw8446289292415153075:Nat:=0
def PySem.W.Fast.tw17889655741881929139:Nat:=0
def PySem.W.Fast.tw15964488206561349027:Nat:=0
def PySem.W.Fast.tw6014909360168030361:Nat:=0
def PySem.W.Fast.tw7030225456235639787:Nat:=0
def PySem.W.Fast.tw493846522031147906:Nat:=0
def PySem.W.Fast.tw13380932205455146424:Nat:=0
def PySem.W.Fast.tw1006637710202540975:Nat:=0
def PySem.W.Fast.tw7779944017486803972:Nat:=0
def PySem.W.Fast.tw10177271622364440205:Nat:=0
def PySem.W.Fast.tw10492955723975315438:Nat:=0
def PySem.W.Fast.tw4882539329583778820:Nat:=0
def PySem.W.Fast.tw9652262533122004988:Nat:=0
def PySem.W.Fast.tw18110777259826550752:Nat:=0
def PySem.W.Fast.tw13804001575833416685:Nat:=0
def PySem.W.Fast.tw16437963143536924304:Nat:=0
def PySem.W.Fast.tw1907954742015580570:Nat:=0
def PySem.W.Fast.tw4286495685976507031:Nat:=0
def PySem.W.Fast.tw16210963942987758536:Nat:=0
def PySem.W.Fast.tw18419665982663974590:Nat:=0
def PySem.W.Fast.tw10212793678395046260:Nat:=0
def PySem.W.Fast.tw6391600245776816110:Nat:=0
def PySem.W.Fast.tw2260818776408092224:Nat:=0
def PySem.W.Fast.tw3876041377687281760:Nat:=0
def PySem.W.Fast.tw17059468197528295871:Nat:=0
def PySem.W.Fast.tw6583731867429854690:Nat:=0
def PySem.W.Fast.tw9041147897384982280:Nat:=0
def PySem.W.Fast.tw16505218361034213446:Nat:=0
def PySem.W.Fast.tw1589724076480705914:Nat:=0
def PySem.W.Fast.tw17129705147626868720:Nat:=0
def PySem.W.Fast.tw10142273726252227587:Nat:=0
def PySem.W.Fast.tw2237303091418031151:Nat:=0
def PySem.W.Fast.tw6056866357223837773:Nat:=0
def PySem.W.Fast.tw3729783626355225636:Nat:=0
def PySem.W.Fast.tw10144539834637781339:Nat:=0
def PySem.W.Fast.tw15550984832019498415:Nat:=0
def PySem.W.Fast.tw6874221033862935466:Nat:=0
def PySem.W.Fast.tw15251214823501411742:Nat:=0
def PySem.W.Fast.tw5518526998293882351:Nat:=0
def PySem.W.Fast.tw4801138619834202911:Nat:=0
def PySem.W.Fast.tw8395993255969797518:Nat:=0
def PySem.W.Fast.tw5778324101412377669:Nat:=0
def PySem.W.Fast.tw12087566018996026998:Nat:=0
def PySem.W.Fast.tw14537466817363447485:Nat:=0
def PySem.W.Fast.tw9312123369467918362:Nat:=0
def PySem.W.Fast.tw16092004982933917721:Nat:=0
def PySem.W.Fast.tw16182831069276390150:Nat:=0
def PySem.W.Fast.tw9173288443238702199:Nat:=0
def PySem.W.Fast.tw1384677474368196522:Nat:=0
def PySem.W.Fast.tw4337970944031163683:Nat:=0
def PySem.W.Fast.tw18015480354572720948:Nat:=0
def PySem.W.Fast.tw6228527368436617820:Nat:=0
def PySem.W.Fast.tw7968729959890781112:Nat:=0
def PySem.W.Fast.tw1781358600343498537:Nat:=0
def PySem.W.Fast.tw5938918443194372272:Nat:=0
def PySem.W.Fast.tw8067989487015250582:Nat:=0
def PySem.W.Fast.tw17475656491840548666:Nat:=0
def PySem.W.Fast.tw12609596400303244506:Nat:=0
def PySem.W.Fast.tw10293685516888241436:Nat:=0
def PySem.W.Fast.tw14976886076192753631:Nat:=0
def PySem.W.Fast.tw17317349232678278958:Nat:=0
def PySem.W.Fast.tw8353060193241661920:Nat:=0
def PySem.W.Fast.tw2297355470610306235:Nat:=0
def PySem.W.Fast.tw9012620627845942376:Nat:=0
def PySem.W.Fast.tw9288084690569041070:Nat:=0
def PySem.W.Fast.tw5814746340246309563:Nat:=0
def PySem.W.Fast.tw15873176481507825393:Nat:=0
def PySem.W.Fast.tw15200798120996607270:Nat:=0
def PySem.W.Fast.tw17006815507271597870:Nat:=0
def PySem.W.Fast.tw17218006592979547410:Nat:=0
def PySem.W.Fast.tw153850162764821818:Nat:=0
def PySem.W.Fast.tw657045955050462132:Nat:=0
def PySem.W.Fast.tw12257827233098382879:Nat:=0
def PySem.W.Fast.tw13720585136239469310:Nat:=0
def PySem.W.Fast.tw2143088184989555936:Nat:=0
def PySem.W.Fast.tw3757066003581737449:Nat:=0
def PySem.W.Fast.tw9393952297635232713:Nat:=0
def PySem.W.Fast.tw13250505233855253889:Nat:=0
def PySem.W.Fast.tw7345107004900772610:Nat:=0
def PySem.W.Fast.tw11175096587211629881:Nat:=0
def PySem.W.Fast.tw18223215144172586829:Nat:=0
def PySem.W.Fast.tw7199102489905478169:Nat:=0
def PySem.W.Fast.tw4398347756784890362:Nat:=0
def PySem.W.Fast.tw7806682535025424223:Nat:=0
def PySem.W.Fast.tw8318399418342763458:Nat:=0
def PySem.W.Fast.tw9867814608528741403:Nat:=0
def PySem.W.Fast.tw5503956213982698263:Nat:=0
def PySem.W.Fast.tw5952787417628463380:Nat:=0
def PySem.W.Fast.tw14416868888669834808:Nat:=0
def PySem.W.Fast.tw1694567598875399989:Nat:=0
def PySem.W.Fast.tw1972747712413733841:Nat:=0
def PySem.W.Fast.tw7291283145459803804:Nat:=0
def PySem.W.Fast.tw15515340433558029896:Nat:=0
def PySem.W.Fast.tw1631324741831013166:Nat:=0
def PySem.W.Fast.tw14003182786422960954:Nat:=0
def PySem.W.Fast.tw1029227325573413781:Nat:=0
def PySem.W.Fast.tw12261562401468674334:Nat:=0
def PySem.W.Fast.tw16998077329636090194:Nat:=0
def PySem.W.Fast.tw6666723645261075224:Nat:=0
def PySem.W.Fast.tw10487488185136373852:Nat:=0
def PySem.W.Fast.tw12316585358201312001:Nat:=0
def PySem.W.Fast.tw13249192594673253148:Nat:=0
def PySem.W.Fast.tw17353862722820077066:Nat:=0
def PySem.W.Fast.tw744267411219131314:Nat:=0
def PySem.W.Fast.tw5272184808103004546:Nat:=0
def PySem.W.Fast.tw4598525630600311176:Nat:=0
def PySem.W.Fast.tw3965927022433228622:Nat:=0
def PySem.W.Fast.tw16570416205444916057:Nat:=0
def PySem.W.Fast.tw6000836629116205328:Nat:=0
def PySem.W.Fast.tw5625041766251332772:Nat:=0
def PySem.W.Fast.tw54796675585709646:Nat:=0
def PySem.W.Fast.tw12935245196994258109:Nat:=0
def PySem.W.Fast.tw15649592381023953416:Nat:=0
def PySem.W.Fast.tw13908749368585874045:Nat:=0
def PySem.W.Fast.tw2800546255174588471:Nat:=0
def PySem.W.Fast.tw6310524881726524627:Nat:=0
def PySem.W.Fast.tw12018919146012956019:Nat:=0
def PySem.W.Fast.tw1058098635807154592:Nat:=0
def PySem.W.Fast.tw4677090934949003827:Nat:=0
def PySem.W.Fast.tw16003871842963315539:Nat:=0
def PySem.W.Fast.tw2834367991844057442:Nat:=0
def PySem.W.Fast.tw17496956516318630645:Nat:=0
def PySem.W.Fast.tw15348626886315373375:Nat:=0
def PySem.W.Fast.tw4300967269873596547:Nat:=0
def PySem.W.Fast.tw9947026234481231441:Nat:=0
def PySem.W.Fast.tw9093299709397340212:Nat:=0
def PySem.W.Fast.tw16427931066118544384:Nat:=0
def PySem.W.Fast.tw9749120059253554763:Nat:=0
def PySem.W.Fast.tw4835490654966996183:Nat:=0
def PySem.W.Fast.tw13180615702142616185:Nat:=0
def PySem.W.Fast.tw9529933953849940494:Nat:=0
def PySem.W.Fast.tw1910099022042464203:Nat:=0
def PySem.W.Fast.tw4881296130052060399:Nat:=0
def PySem.W.Fast.tw12991696775725906968:Nat:=0
def PySem.W.Fast.tw16142315467852328803:Nat:=0
def PySem.W.Fast.tw16971592939380342546:Nat:=0
def PySem.W.Fast.tw8362016886332857384:Nat:=0
def PySem.W.Fast.tw14942363595697875943:Nat:=0
def PySem.W.Fast.tw16669395288755929268:Nat:=0
def PySem.W.Fast.tw1225057217284237667:Nat:=0
def PySem.W.Fast.tw5104584624128977339:Nat:=0
def PySem.W.Fast.tw7487693748598143255:Nat:=0
def PySem.W.Fast.tw16217803864994526873:Nat:=0
def PySem.W.Fast.tw13417428656758375540:Nat:=0
def PySem.W.Fast.tw5651708267130678876:Nat:=0
def PySem.W.Fast.tw4601873041962453941:Nat:=0
def PySem.W.Fast.tw6246322760242427596:Nat:=0
def PySem.W.Fast.tw7677472559919414823:Nat:=0
def PySem.W.Fast.tw9195625825983504808:Nat:=0
def PySem.W.Fast.tw14042897845682792558:Nat:=0
def PySem.W.Fast.tw7586750651381761290:Nat:=0
def PySem.W.Fast.tw12748553728446187776:Nat:=0
def PySem.W.Fast.tw5511995644127144673:Nat:=0
def PySem.W.Fast.tw3183264916088753699:Nat:=0
def PySem.W.Fast.tw2674514104318488163:Nat:=0
def PySem.W.Fast.tw683379259782517165:Nat:=0
def PySem.W.Fast.tw7046400632108389008:Nat:=0
def PySem.W.Fast.tw12874834752393298070:Nat:=0
def PySem.W.Fast.tw2637211465587344244:Nat:=0
def PySem.W.Fast.tw10433328104803658931:Nat:=0
def PySem.W.Fast.tw2631915580559861866:Nat:=0
def PySem.W.Fast.tw6774824047140088617:Nat:=0
def PySem.W.Fast.tw142387692765663167:Nat:=0
def PySem.W.Fast.tw4641249655051584277:Nat:=0
def PySem.W.Fast.tw10313238088309396467:Nat:=0
def PySem.W.Fast.tw546638163265650415:Nat:=0
def PySem.W.Fast.tw4273315405348844696:Nat:=0
def PySem.W.Fast.tw3520848072002438307:Nat:=0
def PySem.W.Fast.tw17003158611820233763:Nat:=0
def PySem.W.Fast.tw8405208073978150247:Nat:=0
def PySem.W.Fast.tw4720709256944886810:Nat:=0
def PySem.W.Fast.tw14312019510322600424:Nat:=0
open PySem PySem.W PyProof.Rows
set_option maxRecDepth 100000 in
set_option maxHeartbeats 0 in
theorem PySem.Challenge.cw_mapdye_k18_refusals_made_holds : PySem.Challenge.rw_mapdye_k18_refusals_made.Holds := by
 w_on;o_law;k_head;(case hw=>w_witness2)
 k_fill
 refine dg.walk (l:=PySem.Challenge.rw_mapdye_k18_refusals_made) rfl rfl (λw h Y=>PySem.W.kIn_of Y) ?F
 case F=>
  intro w mg fa h KX G og
  refine' dg.all_mk KX G og ?a0 ?l0 ?c0 ?k0 ?a1 ?l1 ?c1 ?k1 ?a2 ?l2 ?c2 ?k2 ?a3 ?l3 ?c3 ?k3 ?a4 ?l4 ?c4 ?k4 ?a5 ?l5 ?c5 ?k5 ?a6 ?l6 ?c6 ?k6 ?a7 ?l7 ?c7 ?k7 ?aM ?sgM ?rdM ?fcM ?tyM ?clM ?hn ?htk ?mc ?zrange ?zenumerate ?zall ?zisinstance ?zbool ?zlist ?ztuple ?zdict ?zValueError ?zlen ?zreversed ?ea0 ?el0 ?ecc0 ?ek0 ?ea1 ?el1 ?ecc1 ?ek1 ?gNoWeb ?eNoWeb ?nNoWeb ?fNoWeb ?lNoWeb ?cNoWeb ?kNoWeb ?aNoWebfault ?gNotPlane ?eNotPlane ?nNotPlane ?fNotPlane ?lNotPlane ?cNotPlane ?kNotPlane ?aNotPlanecounted ?gAlike ?eAlike ?nAlike ?fAlike ?lAlike ?cAlike ?kAlike ?aAlikeone ?aAlikeother ?gTooFew ?eTooFew ?nTooFew ?fTooFew ?lTooFew ?cTooFew ?kTooFew ?aTooFewpoint ?gNotFree ?eNotFree ?nNotFree ?fNotFree ?lNotFree ?cNotFree ?kNotFree ?aNotFreepoint ?gNotFilled ?eNotFilled ?nNotFilled ?fNotFilled ?lNotFilled ?cNotFilled ?kNotFilled ?aNotFilledland ?gOdd ?eOdd ?nOdd ?fOdd ?lOdd ?cOdd ?kOdd ?aOddpoint ?gBridge ?eBridge ?nBridge ?fBridge ?lBridge ?cBridge ?kBridge ?aBridgetie ?gShared ?eShared ?nShared ?fShared ?lShared ?cShared ?kShared ?aSharedone ?aSharedother ?gTooMany ?eTooMany ?nTooMany ?gTooSmall ?eTooSmall ?nTooSmall ?gNoText ?eNoText ?nNoText ?gNoCorner ?eNoCorner ?nNoCorner ?gNoRing ?eNoRing ?nNoRing ?nd
  (case a0=>k_is)
  (case l0=>k_is)
  (case c0=>k_is)
  (case k0=>k_is)
  (case a1=>k_is)
  (case l1=>k_is)
  (case c1=>k_is)
  (case k1=>k_is)
  (case a2=>k_is)
  (case l2=>k_is)
  (case c2=>k_is)
  (case k2=>k_is)
  (case a3=>k_is)
  (case l3=>k_is)
  (case c3=>k_is)
  (case k3=>k_is)
  (case a4=>k_is)
  (case l4=>k_is)
  (case c4=>k_is)
  (case k4=>k_is)
  (case a5=>k_is)
  (case l5=>k_is)
  (case c5=>k_is)
  (case k5=>k_is)
  (case a6=>k_is)
  (case l6=>k_is)
  (case c6=>k_is)
  (case k6=>k_is)
  (case a7=>k_is)
  (case l7=>k_is)
  (case c7=>k_is)
  (case k7=>k_is)
  (case aM=>k_is)
  (case sgM=>k_is)
  (case rdM=>k_is)
  (case fcM=>k_is)
  (case tyM=>k_is)
  (case clM=>k_is)
  (case hn=>k_is)
  (case htk=>k_is)
  (case mc=>k_is)
  (case zrange=>k_is)
  (case zenumerate=>k_is)
  (case zall=>k_is)
  (case zisinstance=>k_is)
  (case zbool=>k_is)
  (case zlist=>k_is)
  (case ztuple=>k_is)
  (case zdict=>k_is)
  (case zValueError=>k_is)
  (case zlen=>k_is)
  (case zreversed=>k_is)
  (case ea0=>k_is)
  (case el0=>k_is)
  (case ecc0=>k_is)
  (case ek0=>k_is)
  (case ea1=>k_is)
  (case el1=>k_is)
  (case ecc1=>k_is)
  (case ek1=>k_is)
  (case gNoWeb=>k_is)
  case eNoWeb=>
   refine' dg.aL ?h1 ?h2 ?h3 ?h4 ?h5 ?h6 ?h7 ?h8 ?h9 ?h10 ?h11 ?h12 ?h13
   (case h1=>k_is);(case h2=>k_is);(case h3=>k_is);(case h4=>k_is);(case h5=>k_is);(case h6=>k_is);(case h7=>rfl);(case h8=>k_is);(case h9=>rfl);(case h10=>k_is);(case h11=>k_is);(case h12=>k_is);(case h13=>k_is)
  (case nNoWeb=>k_is)
  (case fNoWeb=>k_is)
  (case lNoWeb=>k_is)
  (case cNoWeb=>k_is)
  (case kNoWeb=>k_is)
  (case aNoWebfault=>k_is)
  (case gNotPlane=>k_is)
  case eNotPlane=>
   refine' dg.aL ?h1 ?h2 ?h3 ?h4 ?h5 ?h6 ?h7 ?h8 ?h9 ?h10 ?h11 ?h12 ?h13
   (case h1=>k_is);(case h2=>k_is);(case h3=>k_is);(case h4=>k_is);(case h5=>k_is);(case h6=>k_is);(case h7=>rfl);(case h8=>k_is);(case h9=>rfl);(case h10=>k_is);(case h11=>k_is);(case h12=>k_is);(case h13=>k_is)
  (case nNotPlane=>k_is)
  (case fNotPlane=>k_is)
  (case lNotPlane=>k_is)
  (case cNotPlane=>k_is)
  (case kNotPlane=>k_is)
  (case aNotPlanecounted=>k_is)
  (case gAlike=>k_is)
  case eAlike=>
   refine' dg.aL ?h1 ?h2 ?h3 ?h4 ?h5 ?h6 ?h7 ?h8 ?h9 ?h10 ?h11 ?h12 ?h13
   (case h1=>k_is);(case h2=>k_is);(case h3=>k_is);(case h4=>k_is);(case h5=>k_is);(case h6=>k_is);(case h7=>rfl);(case h8=>k_is);(case h9=>rfl);(case h10=>k_is);(case h11=>k_is);(case h12=>k_is);(case h13=>k_is)
  (case nAlike=>k_is)
  (case fAlike=>k_is)
  (case lAlike=>k_is)
  (case cAlike=>k_is)
  (case kAlike=>k_is)
  (case aAlikeone=>k_is)
  (case aAlikeother=>k_is)
  (case gTooFew=>k_is)
  case eTooFew=>
   refine' dg.aL ?h1 ?h2 ?h3 ?h4 ?h5 ?h6 ?h7 ?h8 ?h9 ?h10 ?h11 ?h12 ?h13
   (case h1=>k_is);(case h2=>k_is);(case h3=>k_is);(case h4=>k_is);(case h5=>k_is);(case h6=>k_is);(case h7=>rfl);(case h8=>k_is);(case h9=>rfl);(case h10=>k_is);(case h11=>k_is);(case h12=>k_is);(case h13=>k_is)
  (case nTooFew=>k_is)
  (case fTooFew=>k_is)
  (case lTooFew=>k_is)
  (case cTooFew=>k_is)
  (case kTooFew=>k_is)
  (case aTooFewpoint=>k_is)
  (case gNotFree=>k_is)
  case eNotFree=>
   refine' dg.aL ?h1 ?h2 ?h3 ?h4 ?h5 ?h6 ?h7 ?h8 ?h9 ?h10 ?h11 ?h12 ?h13
   (case h1=>k_is);(case h2=>k_is);(case h3=>k_is);(case h4=>k_is);(case h5=>k_is);(case h6=>k_is);(case h7=>rfl);(case h8=>k_is);(case h9=>rfl);(case h10=>k_is);(case h11=>k_is);(case h12=>k_is);(case h13=>k_is)
  (case nNotFree=>k_is)
  (case fNotFree=>k_is)
  (case lNotFree=>k_is)
  (case cNotFree=>k_is)
  (case kNotFree=>k_is)
  (case aNotFreepoint=>k_is)
  (case gNotFilled=>k_is)
  case eNotFilled=>
   refine' dg.aL ?h1 ?h2 ?h3 ?h4 ?h5 ?h6 ?h7 ?h8 ?h9 ?h10 ?h11 ?h12 ?h13
   (case h1=>k_is);(case h2=>k_is);(case h3=>k_is);(case h4=>k_is);(case h5=>k_is);(case h6=>k_is);(case h7=>rfl);(case h8=>k_is);(case h9=>rfl);(case h10=>k_is);(case h11=>k_is);(case h12=>k_is);(case h13=>k_is)
  (case nNotFilled=>k_is)
  (case fNotFilled=>k_is)
  (case lNotFilled=>k_is)
  (case cNotFilled=>k_is)
  (case kNotFilled=>k_is)
  (case aNotFilledland=>k_is)
  (case gOdd=>k_is)
  case eOdd=>
   refine' dg.aL ?h1 ?h2 ?h3 ?h4 ?h5 ?h6 ?h7 ?h8 ?h9 ?h10 ?h11 ?h12 ?h13
   (case h1=>k_is);(case h2=>k_is);(case h3=>k_is);(case h4=>k_is);(case h5=>k_is);(case h6=>k_is);(case h7=>rfl);(case h8=>k_is);(case h9=>rfl);(case h10=>k_is);(case h11=>k_is);(case h12=>k_is);(case h13=>k_is)
  (case nOdd=>k_is)
  (case fOdd=>k_is)
  (case lOdd=>k_is)
  (case cOdd=>k_is)
  (case kOdd=>k_is)
  (case aOddpoint=>k_is)
  (case gBridge=>k_is)
  case eBridge=>
   refine' dg.aL ?h1 ?h2 ?h3 ?h4 ?h5 ?h6 ?h7 ?h8 ?h9 ?h10 ?h11 ?h12 ?h13
   (case h1=>k_is);(case h2=>k_is);(case h3=>k_is);(case h4=>k_is);(case h5=>k_is);(case h6=>k_is);(case h7=>rfl);(case h8=>k_is);(case h9=>rfl);(case h10=>k_is);(case h11=>k_is);(case h12=>k_is);(case h13=>k_is)
  (case nBridge=>k_is)
  (case fBridge=>k_is)
  (case lBridge=>k_is)
  (case cBridge=>k_is)
  (case kBridge=>k_is)
  (case aBridgetie=>k_is)
  (case gShared=>k_is)
  case eShared=>
   refine' dg.aL ?h1 ?h2 ?h3 ?h4 ?h5 ?h6 ?h7 ?h8 ?h9 ?h10 ?h11 ?h12 ?h13
   (case h1=>k_is);(case h2=>k_is);(case h3=>k_is);(case h4=>k_is);(case h5=>k_is);(case h6=>k_is);(case h7=>rfl);(case h8=>k_is);(case h9=>rfl);(case h10=>k_is);(case h11=>k_is);(case h12=>k_is);(case h13=>k_is)
  (case nShared=>k_is)
  (case fShared=>k_is)
  (case lShared=>k_is)
  (case cShared=>k_is)
  (case kShared=>k_is)
  (case aSharedone=>k_is)
  (case aSharedother=>k_is)
  (case gTooMany=>k_is)
  case eTooMany=>
   refine' dg.aL ?h1 ?h2 ?h3 ?h4 ?h5 ?h6 ?h7 ?h8 ?h9 ?h10 ?h11 ?h12 ?h13
   (case h1=>k_is);(case h2=>k_is);(case h3=>k_is);(case h4=>k_is);(case h5=>k_is);(case h6=>k_is);(case h7=>rfl);(case h8=>k_is);(case h9=>rfl);(case h10=>k_is);(case h11=>k_is);(case h12=>k_is);(case h13=>k_is)
  (case nTooMany=>k_is)
  (case gTooSmall=>k_is)
  case eTooSmall=>
   refine' dg.aL ?h1 ?h2 ?h3 ?h4 ?h5 ?h6 ?h7 ?h8 ?h9 ?h10 ?h11 ?h12 ?h13
   (case h1=>k_is);(case h2=>k_is);(case h3=>k_is);(case h4=>k_is);(case h5=>k_is);(case h6=>k_is);(case h7=>rfl);(case h8=>k_is);(case h9=>rfl);(case h10=>k_is);(case h11=>k_is);(case h12=>k_is);(case h13=>k_is)
  (case nTooSmall=>k_is)
  (case gNoText=>k_is)
  case eNoText=>
   refine' dg.aL ?h1 ?h2 ?h3 ?h4 ?h5 ?h6 ?h7 ?h8 ?h9 ?h10 ?h11 ?h12 ?h13
   (case h1=>k_is);(case h2=>k_is);(case h3=>k_is);(case h4=>k_is);(case h5=>k_is);(case h6=>k_is);(case h7=>rfl);(case h8=>k_is);(case h9=>rfl);(case h10=>k_is);(case h11=>k_is);(case h12=>k_is);(case h13=>k_is)
  (case nNoText=>k_is)
  (case gNoCorner=>k_is)
  case eNoCorner=>
   refine' dg.aL ?h1 ?h2 ?h3 ?h4 ?h5 ?h6 ?h7 ?h8 ?h9 ?h10 ?h11 ?h12 ?h13
   (case h1=>k_is);(case h2=>k_is);(case h3=>k_is);(case h4=>k_is);(case h5=>k_is);(case h6=>k_is);(case h7=>rfl);(case h8=>k_is);(case h9=>rfl);(case h10=>k_is);(case h11=>k_is);(case h12=>k_is);(case h13=>k_is)
  (case nNoCorner=>k_is)
  (case gNoRing=>k_is)
  case eNoRing=>
   refine' dg.aL ?h1 ?h2 ?h3 ?h4 ?h5 ?h6 ?h7 ?h8 ?h9 ?h10 ?h11 ?h12 ?h13
   (case h1=>k_is);(case h2=>k_is);(case h3=>k_is);(case h4=>k_is);(case h5=>k_is);(case h6=>k_is);(case h7=>rfl);(case h8=>k_is);(case h9=>rfl);(case h10=>k_is);(case h11=>k_is);(case h12=>k_is);(case h13=>k_is)
  (case nNoRing=>k_is)
  (case nd=>decide)
